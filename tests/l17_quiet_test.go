package tests

import (
	"fmt"
	"math"
	"reflect"
	"slices"
	"testing"

	"loop.example/g00129/impl"
)

const mostRounds = 5000

// slowPass is what a Round does, as chapter 17 words it, without asking whether the world is right.
func slowPass(w impl.World) impl.World {
	w, _ = slowEvent(w, tickEvent)
	for n := 0; n < 200 && len(w.Net) > 0; n++ {
		w, _ = slowEvent(w, deliverAt(0))
	}
	return w
}

// slowSettle is Settle as chapter 17 words it.
func slowSettle(w impl.World, n int) impl.World {
	if n < 0 || n > 5000 || !slowWorld(w) {
		return w
	}
	for range n {
		w = slowPass(w)
	}
	return w
}

// slowEnough is Enough as chapter 17 words it.
func slowEnough(w impl.World) int {
	enough := 2
	for range slowLoad(w.F) {
		enough += w.F.Set.Wait*w.F.Set.Tries + w.F.Set.Wait + 1
	}
	return enough
}

// rounds wants of Round what the chapter's words tell; Settle of 1 is the same, and what was told stays.
func rounds(t *testing.T, what string, w impl.World) impl.World {
	t.Helper()
	got, want := impl.Round(w), slowSettle(w, 1)
	if !equalWorld(got, want) {
		t.Errorf("%s: Round of %v is %v, not %v", what, w, got, want)
	}
	if one := impl.Settle(w, 1); !equalWorld(one, want) {
		t.Errorf("%s: Settle of %v and 1 is %v, not %v", what, w, one, want)
	}
	keepsTold(t, what, w, got)
	looksQuiet(t, what, got)
	return got
}

// settles wants of Settle what the chapter's words tell; what was told stays.
func settles(t *testing.T, what string, w impl.World, n int) impl.World {
	t.Helper()
	got := impl.Settle(w, n)
	if want := slowSettle(w, n); !equalWorld(got, want) {
		t.Errorf("%s: Settle of %v and %d is %v, not %v", what, w, n, got, want)
	}
	keepsTold(t, what, w, got)
	looksQuiet(t, what, got)
	return got
}

// looksQuiet wants of Quiet and Enough what the chapter's words tell.
func looksQuiet(t *testing.T, what string, w impl.World) {
	t.Helper()
	if got, want := impl.Quiet(w), len(w.F.Open.List)+len(w.Net) == 0; got != want {
		t.Errorf("%s: Quiet of %v is %v", what, w, got)
	}
	if got, want := impl.Enough(w), slowEnough(w); got != want {
		t.Errorf("%s: Enough of %v is %d, not %d", what, w, got, want)
	}
}

// staysAsItIs wants that rounds change nothing of this world.
func staysAsItIs(t *testing.T, what string, w impl.World) {
	t.Helper()
	if got := rounds(t, what, w); !equalWorld(got, w) {
		t.Errorf("%s: Round of %v is %v", what, w, got)
	}
	for _, n := range []int{-1, 0, 1, 2, 7, mostRounds, mostRounds + 1} {
		if got := settles(t, what, w, n); !equalWorld(got, w) {
			t.Errorf("%s: Settle of %v and %d is %v", what, w, n, got)
		}
	}
}

func TestRoundOfAnEmptyNet(t *testing.T) {
	w, _ := impl.WorldNew(impl.Config{Wait: 1}, rightPosts()[3])
	want := cloneWorld(w)
	for i := range 4 {
		w = rounds(t, "nothing asked", w)
		want.F.Now = i + 1
		if !equalWorld(w, want) {
			t.Fatalf("behind %d rounds, %v", i+1, w)
		}
	}
	w = rounds(t, "asked", doAll(t, oneDevice(), askOf(3, 9, askAt(3, 5, 2))))
	if len(w.Replies) != 1 || !slices.Equal(w.Replies[0].Resp.Words, []int{0, 0}) || len(w.Served) != 1 || w.F.Now != 1 || !impl.Quiet(w) {
		t.Errorf("asked, and told in one round: %v", w)
	}
	w.F.Now = lastTick
	if w = rounds(t, "the last tick", w); w.F.Now != 0 {
		t.Errorf("behind the last tick comes %d", w.F.Now)
	}
	was := plainWorld()
	was.Net = nil
	rounds(t, "much is open", was)
}

// A question that goes to a post is served, and its answer is back, within the round; no answer waits for another one.
func TestRoundOfOnePacketToAPost(t *testing.T) {
	for i, k := range askKinds {
		for _, q := range []impl.Req{askAt(k.kind, 8, min(k.most, 9)), askAt(k.kind, 64, 1)} {
			was := plainWorld()
			was.F = ruled()
			was.Net = []impl.Packet{packetTo(0, 40+i, 1, q)}
			d, told := slowServe(was.Posts[2].D, q)
			want := cloneWorld(was)
			want.F.Now, want.Net, want.Posts[2].D = 1, nil, d
			want.Served = append(want.Served, impl.Served{Port: 0, Number: 40 + i, Unit: 1, Req: q, Resp: told})
			if w := rounds(t, "to a post", was); !equalWorld(w, want) {
				t.Errorf("%v is served in a round: %v, not %v", q, w, want)
			}
			was.Net[0].Port = 4
			if w := rounds(t, "to no post", was); len(w.Net) != 0 || len(w.Served) != 1 || !equalDevice(w.Posts[2].D, was.Posts[2].D) {
				t.Errorf("%v to no post: %v", q, w)
			}
		}
	}
}

func TestRoundOfOnePacketBack(t *testing.T) {
	q, a := wrote(77)
	asked := plays(t, "asked", oneDevice(), []impl.Event{askOf(3, 9, q), tickEvent})
	for _, k := range []struct {
		p       impl.Packet
		replies int
	}{
		{packetBack(4, 0, 50, a), 1}, {packetBack(4, 0, 50, impl.FaultOf(q, 6)), 1},
		{packetBack(4, 1, 50, a), 0}, {packetBack(4, 0, 51, a), 0}, {packetBack(3, 0, 50, a), 0}, {packetBack(4, 0, 50, fitting(askAt(3, 5, 1))), 0},
	} {
		was := cloneWorld(asked)
		was.Net = []impl.Packet{k.p}
		w := rounds(t, "back", was)
		if len(w.Replies) != k.replies || len(w.Net) != 0 || len(w.Served) != 0 || impl.Quiet(w) != (k.replies == 1) {
			t.Errorf("%v is back: %v", k.p, w)
		}
		if k.replies == 1 && !equalResp(w.Replies[0].Resp, k.p.Resp) {
			t.Errorf("%v is back: told %v", k.p, w.Replies)
		}
	}
}

// The tick is ahead of what is delivered: what it gives up hears no answer more, what it asks is told, and what is free
// behind it is asked by the next tick alone.
func TestRoundTicksFirst(t *testing.T) {
	q, a := wrote(77)
	w, _ := impl.WorldNew(impl.Config{Wait: 3, Rules: []impl.Rule{ruleOf(2, 0, 63, 4, 50, 0)}}, []impl.Post{{Port: 4, Unit: 50, D: impl.DeviceNew(64)}})
	w = plays(t, "asked", w, []impl.Event{askOf(3, 9, q), askOf(4, 9, q), askOf(5, 9, q), tickEvent, deliverAt(0)})
	for ticks := range 3 {
		late := plays(t, "waited for", w, slices.Repeat([]impl.Event{tickEvent}, ticks))
		late = rounds(t, "an answer on its way", late)
		want := a
		if ticks == 2 {
			want = impl.FaultOf(q, impl.FaultTarget)
		}
		if len(late.Replies) == 0 || !equalResp(late.Replies[0].Resp, want) {
			t.Fatalf("%d ticks late: told %v, not %v", ticks, late.Replies, want)
		}
		if len(late.Replies) != 1+ticks/2 || late.F.Sent != 1+ticks/2 || len(late.Net) != 0 {
			t.Errorf("%d ticks late: %v", ticks, late)
		}
		if last := rounds(t, "the next one", late); len(last.Replies) != len(late.Replies)+1 || last.F.Sent != late.F.Sent+1 {
			t.Errorf("%d ticks late: then told %v", ticks, last.Replies)
		}
	}
}

// It is always the first packet that is delivered, so that devices are asked in the order of Net.
func TestRoundDeliversInOrder(t *testing.T) {
	var net []impl.Packet
	for i := range mostNet {
		q, _ := wrote(1000 + i)
		net = append(net, packetTo(4, i, 50, q))
		if i%3 == 2 {
			net[i].Req = impl.Req{Kind: 3, At: 5, N: 1}
		}
	}
	for _, n := range []int{1, 2, 3, 7, 59, 60} {
		was := oneDevice()
		was.Net = slices.Clone(net[:n])
		w := rounds(t, "in order", was)
		if len(w.Served) != n || len(w.Net) != 0 {
			t.Fatalf("of %d packets, %d are served, and %v is on its way", n, len(w.Served), w.Net)
		}
		for i, s := range w.Served {
			if s.Number != i || i%3 == 2 && !slices.Equal(s.Resp.Words, []int{1000 + i - 1}) {
				t.Errorf("of %d packets, the %dth served is %v", n, i, s)
			}
		}
	}
}

// Answers that are back ahead of the questions' own are heard ahead of them.
func TestRoundHearsInOrder(t *testing.T) {
	q, _ := wrote(77)
	first, second := impl.FaultOf(q, 6), impl.FaultOf(q, 8)
	for _, net := range [][]impl.Packet{
		{packetBack(4, 0, 50, first), packetBack(4, 0, 50, second)},
		{packetTo(4, 0, 50, q), packetBack(4, 0, 50, first), packetBack(4, 0, 50, second)},
		{packetBack(4, 0, 51, second), packetTo(4, 0, 50, q), packetTo(4, 0, 50, q), packetBack(4, 0, 50, first)},
	} {
		was := plays(t, "asked", oneDevice(), []impl.Event{askOf(3, 9, q), tickEvent})
		was.Net = net
		if w := rounds(t, "in order", was); len(w.Replies) != 1 || !equalResp(w.Replies[0].Resp, first) {
			t.Errorf("of %v, %v is heard", net, w.Replies)
		}
	}
}

// Where Net is full, what the tick sends is lost as far as there is no room, and asked again; all else is delivered.
func TestRoundOfAFullNet(t *testing.T) {
	for n := 50; n <= mostNet; n++ {
		was := sixSend(n)
		for port := range 6 {
			was.Posts = append(was.Posts, impl.Post{Port: port, Unit: 9, D: impl.DeviceNew(8)})
		}
		w := rounds(t, "six send", was)
		if told := min(6, 60-n); len(w.Served) != told || len(w.Net) != 0 || w.F.Sent != was.F.Sent+6 || impl.Load(w.F) != 6-told {
			t.Fatalf("of %d packets, %d are served", n, len(w.Served))
		}
		// the last line waits for seven ticks; the first one asks no call again
		if w = settles(t, "asked again", w, 7); len(w.F.Open.List) > 0 || (w.Replies[0].Resp.Fault == 0) != (n < 60) || w.F.Sent != was.F.Sent+12-max(1, min(6, 60-n)) {
			t.Errorf("of %d packets, %v is open, and told %v", n, w.F.Open, w.Replies)
		}
	}
	for _, p := range plainNet() {
		was := plainWorld()
		was.Net = slices.Repeat([]impl.Packet{p}, mostNet)
		if w := rounds(t, "sixty of one", was); len(w.Net) != 0 {
			t.Errorf("of sixty like %v, %d are left", p, len(w.Net))
		}
	}
}

// Each of sixty questions is served, and each of their answers is delivered, too: 120 in one round.
func TestRoundDeliversTwiceAsManyAsNetHas(t *testing.T) {
	q, _ := wrote(77)
	was := oneDevice()
	was.Net = slices.Repeat([]impl.Packet{packetTo(4, 9, 50, q)}, mostNet)
	w := rounds(t, "sixty questions", was)
	if len(w.Served) != 60 || !impl.Quiet(w) {
		t.Errorf("%d are served, %d are left", len(w.Served), len(w.Net))
	}
}

// What is told beyond what a right world has goes on within a Round and a Settle; the next one asks anew.
func TestRoundsAskAtTheBeginningAlone(t *testing.T) {
	for _, was := range []impl.World{fullWorld(5000, 5000), fullWorld(4999, 5000), fullWorld(5000, 4999), fullWorld(4999, 4998)} {
		one := rounds(t, "at its most", was)
		if len(one.Net) != 0 || len(one.Served) < len(was.Served)+2 {
			t.Errorf("%d are on their way, %d served", len(one.Net), len(one.Served))
		}
		worldIs(t, "beyond", one, false)
		if again := rounds(t, "beyond", one); !equalWorld(again, one) {
			t.Errorf("a round of a world that is not right: Now %d", again.F.Now)
		}
		if w := settles(t, "at its most", was, 4); w.F.Now != 504 || impl.Load(w.F) == impl.Load(one.F) {
			t.Errorf("behind four rounds it is %d", w.F.Now)
		}
	}
}

// roundWorlds gives right worlds of every kind.
func roundWorlds(t *testing.T) []impl.World {
	t.Helper()
	list := []impl.World{plainWorld(), oneDevice(), sixSend(57), toldWorld(t)}
	for _, w := range memoryWorlds(t) {
		if slowWorld(w) {
			list = append(list, w)
		}
	}
	for seed := range 12 {
		list = append(list, impl.Play(playWorld(t, seed), eventsOf(sampleBytes(uint32(seed+2200), 300))))
	}
	return list
}

func TestRoundsAsWorded(t *testing.T) {
	for i, w := range roundWorlds(t) {
		worldIs(t, "right", w, true)
		for n := range 12 {
			w = rounds(t, fmt.Sprint("the round ", n, " of world ", i), w)
		}
	}
}

func TestSettleOfOtherNumbers(t *testing.T) {
	numbers := append([]int{-mostRounds, -2, -1, mostRounds + 1, mostRounds + 2, 10000, 65536, 1000000}, farNumbers...)
	for _, w := range roundWorlds(t) {
		if got := settles(t, "no rounds", w, 0); !equalWorld(got, w) {
			t.Errorf("Settle of %v and 0 is %v", w, got)
		}
		for _, n := range numbers {
			if n == 256 || n == 257 {
				continue
			}
			if got := settles(t, "no such number", w, n); !equalWorld(got, w) {
				t.Errorf("Settle of %v and %d is %v", w, n, got)
			}
		}
	}
}

// So many rounds one by one are as one Settle, wherever they are parted.
func TestRoundsOneByOneAreAsOneSettle(t *testing.T) {
	for i, w := range roundWorlds(t) {
		one := w
		for n := range 40 {
			if got := impl.Settle(w, n); !equalWorld(got, one) {
				t.Fatalf("world %d: Settle of %v and %d is %v, not %v", i, w, n, got, one)
			}
			one = impl.Round(one)
		}
		for _, n := range []int{0, 1, 13, 39, 40} {
			if got := impl.Settle(impl.Settle(w, n), 40-n); !equalWorld(got, one) {
				t.Errorf("world %d: %d rounds, then %d, make %v, not %v", i, n, 40-n, got, one)
			}
		}
		settles(t, "forty", w, 40)
	}
}

func TestSettleOfTheMostRounds(t *testing.T) {
	for i, w := range []impl.World{plainWorld(), oneDevice(), toldWorld(t)} {
		w.F.Now = []int{500, lastTick - 4000, 0}[i]
		was := w
		for range mostRounds {
			w = impl.Round(w)
		}
		for _, n := range []int{mostRounds - 1, mostRounds} {
			got := settles(t, "the most", was, n)
			if now := impl.TickGap(was.F.Now, got.F.Now); now != n {
				t.Errorf("world %d: behind %d rounds it is %d later", i, n, now)
			}
		}
		if got := impl.Settle(was, mostRounds); !equalWorld(got, w) || !impl.Quiet(got) {
			t.Errorf("world %d: Settle of the most is %v, not %v", i, got, w)
		}
	}
}

// wrongWorlds gives worlds that are not right, by each of their parts.
func wrongWorlds() map[string][]impl.World {
	list := map[string][]impl.World{"the zero world": {{}}}
	put := func(what string, edit func(*impl.World)) {
		w := plainWorld()
		edit(&w)
		list[what] = append(list[what], w)
	}
	for _, k := range slices.Concat(packetEdits(), carryEdits(), sizeEdits()) {
		if !k.right {
			put(k.what, k.edit)
		}
	}
	for _, k := range slices.Concat(fieldEdits(), wholeEdits(), partEdits(), countEdits()) {
		if !k.right {
			put(k.what, func(w *impl.World) { k.edit(&w.F) })
		}
	}
	for what, lists := range wrongPosts() {
		for _, posts := range lists[:min(len(lists), 6)] {
			put(what, func(w *impl.World) { w.Posts = posts })
		}
	}
	return list
}

func TestRoundsLeaveWhatIsNotRight(t *testing.T) {
	for what, list := range wrongWorlds() {
		for _, w := range list {
			worldIs(t, what, w, false)
			staysAsItIs(t, what, w)
		}
	}
}

func TestQuietOfEachOfTheTwo(t *testing.T) {
	noNet, noOpen, none, odd := plainWorld(), plainWorld(), plainWorld(), plainWorld()
	noNet.Net = nil
	noOpen.F = ruled()
	none.Net, none.F = []impl.Packet{}, ruled()
	odd.Net, odd.F.Open.List = nil, []impl.Pend{}
	for _, k := range []struct {
		what string
		w    impl.World
		want bool
	}{
		{"both", plainWorld(), false}, {"open alone", noNet, false}, {"on its way alone", noOpen, false}, {"none", none, true},
		{"none, though lines ask", odd, true}, {"the zero world", impl.World{}, true},
		{"a packet that is none", impl.World{Net: make([]impl.Packet, 1)}, false},
		{"a matter that is none", impl.World{F: impl.Fabric{Open: impl.Table{List: make([]impl.Pend, 1)}}}, false},
		{"a packet behind the length", impl.World{Net: plainNet()[:0]}, true},
		{"many packets", impl.World{Net: make([]impl.Packet, 1<<16)}, false},
		{"waiting for nothing", impl.World{F: impl.Fabric{Lines: []impl.Line{{Busy: true}}, Asked: 9}}, true},
	} {
		if got := impl.Quiet(k.w); got != k.want {
			t.Errorf("%s: Quiet is %v", k.what, got)
		}
		looksQuiet(t, k.what, k.w)
	}
}

// What else there is does not count: posts, replies, what was served, and counts.
func TestQuietOfAQuietWorld(t *testing.T) {
	w := impl.Settle(toldWorld(t), 100)
	if !impl.Quiet(w) || len(w.Replies) != w.F.Asked || len(w.Posts)*len(w.Served) == 0 {
		t.Fatalf("settled: %v", w)
	}
	for _, e := range []impl.Event{askOf(1, 8, askAt(3, 1, 1)), tickEvent, swapFor()} {
		if next := doAll(t, w, e); !impl.Quiet(next) {
			t.Errorf("behind %v it is not quiet", e)
		}
	}
	asked := doAll(t, w, askOf(1, 9, askAt(3, 1, 1)))
	sent := doAll(t, asked, tickEvent)
	back := doAll(t, sent, deliverAt(0))
	told := doAll(t, back, deliverAt(0))
	if impl.Quiet(asked) || impl.Quiet(sent) || impl.Quiet(back) || !impl.Quiet(told) {
		t.Error("a question goes to its device and back: quiet too soon, or too late")
	}
	late := doAll(t, sent, doubleAt(0), deliverAt(0), deliverAt(1))
	if len(late.F.Open.List) != 0 || impl.Quiet(late) || !impl.Quiet(doAll(t, late, dropAt(0))) {
		t.Error("a double is on its way: quiet too soon")
	}
}

// enoughIs wants that Enough tells this; the chapter's words must tell the same.
func enoughIs(t *testing.T, what string, w impl.World, want int) {
	t.Helper()
	if slow := slowEnough(w); slow != want {
		t.Fatalf("%s: as worded, Enough is %d, not %d", what, slow, want)
	}
	if got := impl.Enough(w); got != want {
		t.Errorf("%s: Enough is %d, not %d", what, got, want)
	}
}

func TestEnoughOfWaitAndTries(t *testing.T) {
	for _, k := range []struct{ wait, tries, load, want int }{
		{1, 0, 0, 2}, {1, 0, 1, 4}, {1, 0, 2, 6}, {1, 1, 1, 5}, {1, 5, 1, 9}, {2, 0, 1, 5}, {3, 1, 3, 23}, {3, 2, 4, 42},
		{100, 0, 1, 103}, {100, 5, 1, 603}, {100, 5, 8, 4810}, {100, 5, 9, 5411}, {100, 5, 0, 2}, {7, 3, 16, 466},
	} {
		w, _ := impl.WorldNew(impl.Config{Wait: k.wait, Tries: k.tries, Rules: []impl.Rule{ruleOf(2, 0, 63, 4, 50, 0)}}, nil)
		for i := range k.load {
			w = doAll(t, w, askOf(i, 9, askAt(3, i, 1)))
		}
		what := fmt.Sprint("wait ", k.wait, ", tries ", k.tries, ", load ", k.load)
		enoughIs(t, what, w, k.want)
		if k.load > 0 {
			// the first call is asked now, and no longer waits
			enoughIs(t, what+", asked", doAll(t, w, tickEvent), k.want)
		}
	}
	for wait := 1; wait <= 100; wait++ {
		for tries := range 6 {
			w := plainWorld()
			w.F.Set.Wait, w.F.Set.Tries = wait, tries
			enoughIs(t, "other settings", w, 6*(wait*(tries+1)+1)+2)
		}
	}
}

// Calls that wait, at whatever lines, and those that are asked count alike; those that were told count no more.
func TestEnoughOfLoad(t *testing.T) {
	for _, k := range []struct {
		asked   int
		waiting []int
		load    int
	}{
		{0, nil, 0}, {0, []int{1}, 1}, {1, []int{0}, 1}, {1, []int{1}, 2}, {0, []int{2, 3}, 5}, {0, []int{0, 0, 0, 0, 0, 5}, 5},
		{63, []int{0, 0, 0, 0, 0, 0}, 6}, {63, []int{1, 2, 3, 4, 5, 6}, 27}, {32, []int{0, 0, 0, 0, 0, 40}, 41},
		{63, []int{40, 40, 40, 0, 0, 0}, 126}, {63, []int{20, 20, 20, 20, 20, 22}, 128},
	} {
		w := impl.World{F: waitingAt(k.asked, k.waiting...)}
		enoughIs(t, fmt.Sprint(k.asked, " asked, ", k.waiting, " waiting"), w, k.load*81+2)
	}
	w := doAll(t, toldWorld(t))
	enoughIs(t, "told in part", w, 2*3+2)
	for _, p := range [][]impl.Packet{nil, plainNet()} {
		w.Net, w.Posts = p, nil
		enoughIs(t, "whatever is on its way", w, 2*3+2)
	}
}

// Enough is by Wait and Tries of Set, whatever those of the lines are.
func TestEnoughIsBySet(t *testing.T) {
	for port := range 6 {
		w := plainWorld()
		w.F.Lines[port].Wait, w.F.Lines[port].Tries = 99, 5
		enoughIs(t, "another line", w, 6*81+2)
	}
}

// Of a fabric that is not right the Load is 0; a world around it that is not right is of no matter.
func TestEnoughOfWhatIsNotRight(t *testing.T) {
	enoughIs(t, "the zero world", impl.World{}, 2)
	for _, k := range slices.Concat(fieldEdits(), wholeEdits(), partEdits(), countEdits()) {
		w := plainWorld()
		k.edit(&w.F)
		if !k.right {
			enoughIs(t, k.what, w, 2)
		} else {
			looksQuiet(t, k.what, w)
		}
	}
	for _, n := range append([]int{-1, 0, 6, 101}, farNumbers...) {
		for _, m := range append([]int{-1, 6}, farNumbers...) {
			w := plainWorld()
			w.F.Set.Wait, w.F.Set.Tries = n, m
			enoughIs(t, fmt.Sprint("wait ", n, ", tries ", m), w, 2)
		}
	}
	for _, k := range slices.Concat(packetEdits(), sizeEdits()) {
		w := plainWorld()
		k.edit(&w)
		enoughIs(t, k.what, w, 6*81+2)
	}
}

// quietRules gives rules for six devices, which n moves to other ports and leaves out.
func quietRules(n int) []impl.Rule {
	list := toldRules()
	for i := range list {
		list[i].Port = (i + n/7) % 6 % (1 + n%6)
	}
	return list[:6-n%3]
}

// quietPosts gives the devices of quietRules of n that mask chooses.
func quietPosts(n int, mask int) (list []impl.Post) {
	for i, r := range quietRules(n) {
		if mask>>i&1 == 1 {
			list = append(list, postOf(r.Port, r.To))
		}
	}
	return list
}

// quietWorld gives a world that WorldNew made of these.
func quietWorld(t *testing.T, n int, mask int) impl.World {
	t.Helper()
	w, ok := impl.WorldNew(impl.Config{Wait: 1 + n%5, Tries: n / 5 % 3, Rules: quietRules(n)}, quietPosts(n, mask))
	if !ok {
		t.Fatalf("%v makes no world", quietRules(n))
	}
	return w
}

// quietEvents does a row of events of every kind that bytes tell, three a piece; did counts those that did something.
func quietEvents(w impl.World, b []byte, did map[int]int) impl.World {
	for i := 0; i+2 < len(b); i += 3 {
		e := mixedEvent(w, int(b[i]), int(b[i+1]), int(b[i+2]))
		if e.Kind == impl.EvSwap && b[i+1]%4 > 0 {
			e = swapFor(quietRules(int(b[i+2]))...)
		}
		next, ok := impl.Do(w, e)
		if ok {
			did[e.Kind]++
		}
		w = next
	}
	return w
}

// isQuiet wants that in this world, which was settled, all is over: nothing is open or on its way, and each tag was
// replied to once.
func isQuiet(t *testing.T, what string, w impl.World) {
	t.Helper()
	looksQuiet(t, what, w)
	if !impl.Quiet(w) || impl.Load(w.F) != 0 || impl.Enough(w) != 2 {
		t.Fatalf("%s: open are %v, on their way %v", what, w.F.Open, w.Net)
	}
	if n := impl.Safe(w); n != 0 {
		t.Errorf("%s: Safe is %d", what, n)
	}
	worldIs(t, what, w, true)
	met := map[int]int{}
	for _, r := range w.Replies {
		met[r.Tag]++
	}
	for tag := range w.F.Asked {
		if met[tag] != 1 {
			t.Fatalf("%s: the tag %d was replied to %d times", what, tag, met[tag])
		}
	}
	if len(met) != w.F.Asked {
		t.Errorf("%s: %d tags were replied to, %d asked", what, len(met), w.F.Asked)
	}
}

// becomesQuiet wants of a world that WorldNew made that it is quiet behind Enough rounds, and stays so; it hands out how
// many rounds were needed.
func becomesQuiet(t *testing.T, what string, w impl.World) int {
	t.Helper()
	enough := impl.Enough(w)
	if enough > mostRounds {
		t.Fatalf("%s: Enough is %d", what, enough)
	}
	then := impl.Settle(w, enough)
	isQuiet(t, what, then)
	keepsTold(t, what, w, then)
	for _, p := range w.F.Open.List {
		if !slices.ContainsFunc(then.Replies[len(w.Replies):], func(r impl.Reply) bool { return r.Tag == p.Tag && r.Source == p.Source && equalReq(r.Req, p.Req) }) {
			t.Errorf("%s: %v was open, and is not replied to", what, p)
		}
	}
	isQuiet(t, what+", one more", impl.Round(then))
	needed := 0
	for ; !impl.Quiet(w); needed++ {
		w = impl.Round(w)
	}
	return needed
}

// Of a world that WorldNew made, by whatever events, with devices that are there, that are not, and some of each, all is
// quiet behind Enough rounds.
func TestQuietBehindEnoughRounds(t *testing.T) {
	did, open, long := map[int]int{}, 0, 0
	for seed := range 120 {
		mask := []int{0, 63, seed * 5 % 64}[seed%3]
		w := quietEvents(quietWorld(t, seed, mask), sampleBytes(uint32(seed+2300), 300+seed), did)
		if !impl.Quiet(w) {
			open++
		}
		if needed := becomesQuiet(t, fmt.Sprint("row ", seed, ", posts ", mask), w); needed > 10 {
			long++
		}
	}
	for kind := 1; kind <= 6; kind++ {
		if did[kind] < 100 {
			t.Errorf("events of kind %d did something %d times", kind, did[kind])
		}
	}
	if open < 80 || long < 20 {
		t.Errorf("%d worlds were not quiet, %d long", open, long)
	}
}

// Of each choice of six devices those that are there tell, and the others are given up.
func TestQuietOfEachChoiceOfDevices(t *testing.T) {
	for mask := range 64 {
		w := quietWorld(t, 48, mask)
		for i, r := range w.F.Set.Rules {
			w = doAll(t, w, askOf(i, 9, askAt([]int{1, 2, 3, 4}[r.Space], r.Lo+1, 2)))
		}
		becomesQuiet(t, "each device asked", w)
		for _, r := range impl.Settle(w, impl.Enough(w)).Replies {
			fault := impl.FaultTarget
			if mask>>r.Source&1 == 1 {
				fault = 0
			}
			if r.Resp.Fault != fault {
				t.Errorf("of the devices %d, %v is told", mask, r)
			}
		}
	}
}

func TestQuietBehindRowsOfAllWorlds(t *testing.T) {
	for seed := range 60 {
		b := sampleBytes(uint32(seed+2500), 300)
		becomesQuiet(t, "a desk", impl.Play(deskWorld(t, seed), eventsOf(b)))
		becomesQuiet(t, "a play, where ticks and numbers go round", impl.Play(playWorld(t, seed), eventsOf(b)))
	}
}

// Rows, then quiet, then rows again: what was settled goes on as any other world.
func TestQuietAgainAndAgain(t *testing.T) {
	did := map[int]int{}
	for seed := range 10 {
		w := quietWorld(t, seed, 63-seed)
		for turn := range 5 {
			w = quietEvents(w, sampleBytes(uint32(seed*10+turn+2600), 150), did)
			becomesQuiet(t, fmt.Sprint("row ", seed, ", turn ", turn), w)
			w = impl.Settle(w, impl.Enough(w))
		}
	}
}

// A world in which as much is open as may be, and all of Net is full.
func TestQuietOfAWorldThatIsFull(t *testing.T) {
	for n := range 6 {
		for _, mask := range []int{0, 21, 63} {
			w := quietWorld(t, n*6, mask)
			for i := range 16 {
				w = doAll(t, w, askOf(i, 9, askAt([]int{3, 16, 1, 4}[i%4], 5+i%3, 13)))
			}
			w = doAll(t, w, tickEvent)
			for len(w.Net) < mostNet {
				w = doAll(t, w, doubleAt(0))
			}
			if len(w.F.Open.List) != 16 {
				t.Fatalf("%v is open", w.F.Open)
			}
			becomesQuiet(t, fmt.Sprint("full, posts ", mask), w)
		}
	}
}

// Where no device is there, each call is waited for as often as it may be asked: so long, and no longer, it is not quiet.
func TestQuietJustWhenTheLastIsGivenUp(t *testing.T) {
	for _, k := range []struct{ wait, tries, n int }{{1, 0, 1}, {1, 0, 16}, {1, 5, 7}, {2, 1, 3}, {3, 0, 2}, {5, 2, 5}, {40, 5, 16}, {100, 5, 8}, {100, 0, 16}} {
		w, _ := impl.WorldNew(impl.Config{Wait: k.wait, Tries: k.tries, Rules: []impl.Rule{ruleOf(2, 0, 63, 4, 50, 0)}}, []impl.Post{postOf(4, 51), postOf(3, 50)})
		for i := range k.n {
			w = doAll(t, w, askOf(i, 9, askAt(3, i, 1)))
		}
		each := k.wait * (k.tries + 1)
		for i := range k.n {
			before, then := impl.Settle(w, (i+1)*each), impl.Settle(w, (i+1)*each+1)
			if len(before.Replies) != i || len(then.Replies) != i+1 || then.Replies[i].Tag != i || then.Replies[i].Resp.Fault != impl.FaultTarget {
				t.Fatalf("wait %d, tries %d: %d and %d replies", k.wait, k.tries, len(before.Replies), len(then.Replies))
			}
			if sent := min(k.n*(k.tries+1), (i+1)*(k.tries+1)+1); then.F.Sent != sent || before.F.Sent != (i+1)*(k.tries+1) {
				t.Errorf("wait %d, tries %d: %d were sent, not %d", k.wait, k.tries, then.F.Sent, sent)
			}
		}
		if needed := becomesQuiet(t, "given up", w); needed != k.n*each+1 {
			t.Errorf("wait %d, tries %d, %d asked: %d rounds were needed", k.wait, k.tries, k.n, needed)
		}
	}
}

// Where Enough is more than the most rounds, so many at once are none; one Settle behind the other is quiet at last.
func TestEnoughBeyondTheMostRounds(t *testing.T) {
	w, _ := impl.WorldNew(impl.Config{Wait: 100, Tries: 5, Rules: []impl.Rule{ruleOf(2, 0, 63, 4, 50, 0)}}, nil)
	for i := range 9 {
		w = doAll(t, w, askOf(i, 9, askAt(3, i, 1)))
	}
	if got := impl.Settle(w, impl.Enough(w)); impl.Enough(w) != 5411 || !equalWorld(got, w) {
		t.Errorf("Enough is %d, and makes %v", impl.Enough(w), got)
	}
	w = impl.Settle(w, mostRounds)
	if len(w.Replies) != 8 || impl.Quiet(w) {
		t.Errorf("behind the most, %d replies", len(w.Replies))
	}
	becomesQuiet(t, "the last", w)
}

// slowJoinedTold is Joined as chapter 10 words it, of a right question and parts that were told what suits them.
func slowJoinedTold(q impl.Req, list []impl.Part, told []impl.Resp) impl.Resp {
	for _, a := range told {
		if a.Fault != 0 {
			return impl.Resp{Kind: q.Kind, Fault: a.Fault}
		}
	}
	return slowJoined(q, list, told)
}

// lastTold wants that the last reply is of this question, and that each of its parts was told what its device told, not
// earlier than the place from of Served; it is joined of these.
func lastTold(t *testing.T, what string, w impl.World, tag int, from int) impl.Reply {
	t.Helper()
	i := slices.IndexFunc(w.Replies, func(r impl.Reply) bool { return r.Tag == tag })
	if i < 0 {
		t.Fatalf("%s: the tag %d was not replied to", what, tag)
	}
	r := w.Replies[i]
	for j, p := range r.Parts {
		told := impl.Served{Port: p.Port, Unit: p.Unit, Req: p.Req, Resp: r.Told[j]}
		if !slices.ContainsFunc(w.Served[from:], func(s impl.Served) bool { return sameButNumber(s, told) }) {
			t.Fatalf("%s: to %v is told %v, which no device told", what, p, r.Told[j])
		}
	}
	if len(r.Parts) > 0 && !equalResp(r.Resp, slowJoinedTold(r.Req, r.Parts, r.Told)) {
		t.Errorf("%s: told is %v", what, r)
	}
	return r
}

// serveParts is what the devices of a world tell to these parts, one behind the other, and what they are then.
func serveParts(w impl.World, list []impl.Part) (posts []impl.Post, told []impl.Resp) {
	posts = cloneWorld(w).Posts
	for _, p := range list {
		for i, post := range posts {
			if post.Port == p.Port && post.Unit == p.Unit {
				d, a := slowServe(post.D, p.Req)
				posts[i].D = d
				told = append(told, a)
			}
		}
	}
	return posts, told
}

// toldAsTheyTell asks a question in a quiet world all whose devices are there, and wants that it is told what they tell.
func toldAsTheyTell(t *testing.T, what string, w impl.World, q impl.Req) impl.World {
	t.Helper()
	list, fault := slowParts(w.F.Set.Rules, 9, q)
	posts, told := serveParts(w, list)
	want := impl.Resp{Kind: q.Kind, Fault: fault}
	if fault == 0 {
		want = slowJoinedTold(q, list, told)
	}
	then := doAll(t, w, askOf(6, 9, q))
	then = impl.Settle(then, impl.Enough(then))
	isQuiet(t, what, then)
	r := lastTold(t, what, then, w.F.Asked, len(w.Served))
	if !equalResp(r.Resp, want) || !slices.EqualFunc(then.Posts, posts, equalPost) || len(then.Served) != len(w.Served)+len(list) {
		t.Errorf("%s: to %v is told %v, not %v", what, q, r.Resp, want)
	}
	return then
}

// A question whose parts all go to one device, with nothing on its way, is told what that device tells; faults of its
// own, too. In how many parts it is asked is of no matter.
func TestToldWhatOneDeviceTells(t *testing.T) {
	one := [][]impl.Rule{nil, nil, nil}
	for space := range 4 {
		one[0] = append(one[0], ruleOf(space, 0, 65535, 2, 30, 0))
		one[1] = append(one[1], ruleOf(space, 1000, 1080, 5, 247, -1000))
		for lo := 0; lo < 48; lo += 8 {
			one[2] = append(one[2], ruleOf(space, lo, lo+7, 0, 1, 15-space))
		}
	}
	tried := map[string]int{}
	for i, rules := range one {
		first := rules[0]
		d := sampleDevice(uint32(i), 64, 64, 64, 64)
		w, ok := impl.WorldNew(impl.Config{Wait: 1 + i, Tries: i, Rules: rules}, []impl.Post{postOf(first.Port, 99), {Port: first.Port, Unit: first.To, D: d}})
		if !ok {
			t.Fatalf("%v makes no world", rules)
		}
		for _, k := range askKinds {
			for _, at := range []int{0, 1, 7, 20, 31, 40, 62, 64} {
				for _, n := range []int{1, 2, 9, 20} {
					q := askAt(k.kind, first.Lo+at, min(n, k.most))
					if k.kind == 23 {
						q = bothAt(first.Lo+at, n, first.Lo+at/2, n)
					}
					w = toldAsTheyTell(t, "one device", w, q)
					last := w.Replies[len(w.Replies)-1]
					tried[fmt.Sprint(k.kind, min(last.Resp.Fault, 1), min(len(last.Parts), 2))]++
				}
			}
		}
	}
	for _, k := range askKinds {
		for _, parts := range []int{1, 2} {
			if what := fmt.Sprint(k.kind, 0, parts); tried[what] == 0 && (parts == 1 || k.most > 1 && k.kind != 23) {
				t.Errorf("of kind %d no question of %d parts was told", k.kind, parts)
			}
		}
		if tried[fmt.Sprint(k.kind, 1, 1)] == 0 {
			t.Errorf("of kind %d no fault was told by the device", k.kind)
		}
	}
}

// Of several devices that are all there a question is told what they tell, behind whatever rows, once it is quiet.
func TestToldWhatDevicesTell(t *testing.T) {
	several := 0
	for seed := range 30 {
		w := quietEvents(quietWorld(t, seed, 63), sampleBytes(uint32(seed+2700), 200), map[int]int{})
		w = impl.Settle(doAll(t, w, swapFor(quietRules(seed)...)), impl.Enough(w))
		for i, b := range sampleBytes(uint32(seed+2800), 20) {
			q := deskAsk(int(b), i*7)
			if i%2 == 0 {
				q = askAt([]int{3, 16}[seed%2], i, 2+int(b)%9)
			}
			w = toldAsTheyTell(t, "devices", w, q)
			if len(w.Replies[len(w.Replies)-1].Parts) > 1 {
				several++
			}
		}
	}
	if several < 100 {
		t.Errorf("%d questions were of several parts", several)
	}
}

// Nothing is on its way, but others were asked before, and wait: the question comes behind them, and is told what its
// devices tell; whatever was lost of the others.
func TestToldWhereOthersAreOpen(t *testing.T) {
	others, faults := 0, 0
	for seed := range 60 {
		w := quietEvents(quietWorld(t, seed, 63), sampleBytes(uint32(seed+2900), 240), map[int]int{})
		w = doAll(t, w, swapFor(quietRules(seed)...))
		for len(w.Net) > 0 {
			w = doAll(t, w, dropAt(0))
		}
		if len(w.F.Open.List) < 16 {
			others += len(w.F.Open.List)
			then := doAll(t, w, askOf(6, 9, deskAsk(seed, seed*3)))
			then = impl.Settle(then, impl.Enough(then))
			isQuiet(t, "others are open", then)
			r := lastTold(t, "others are open", then, w.F.Asked, len(w.Served))
			if r.Resp.Fault != 0 {
				faults++
			}
			if r.Resp.Fault == impl.FaultTarget {
				t.Errorf("though all devices are there, %v is told", r)
			}
		}
	}
	if others < 50 || faults > 40 {
		t.Errorf("%d others were open, %d faults told", others, faults)
	}
}

// A question to a device that is not there is told FaultTarget, one to one that is there and one that is not, too; what
// the first of these was asked, it did.
func TestToldWhereADeviceIsNotThere(t *testing.T) {
	for mask := range 4 {
		rules := []impl.Rule{ruleOf(2, 0, 9, 1, 20, 0), ruleOf(2, 10, 19, 1, 21, 0)}
		posts := []impl.Post{{Port: 1, Unit: 20, D: impl.DeviceNew(20)}, {Port: 1, Unit: 21, D: impl.DeviceNew(20)}}
		for i := range 2 {
			if mask>>i&1 == 0 {
				posts[i].Port = 2
			}
		}
		w, _ := impl.WorldNew(impl.Config{Wait: 2, Tries: 1, Rules: rules}, posts)
		w = doAll(t, w, askOf(0, 9, impl.Req{Kind: 16, At: 8, Words: []int{1, 2, 3, 4}}))
		becomesQuiet(t, "asked", w)
		w = impl.Settle(w, impl.Enough(w))
		fault := impl.FaultTarget
		if mask == 3 {
			fault = 0
		}
		if r := w.Replies[0]; r.Resp.Fault != fault || len(w.Served) != []int{0, 1, 1, 2}[mask] {
			t.Errorf("of the devices %d, %v is told", mask, r)
		}
		for i, post := range w.Posts {
			if did := !slices.Equal(post.D.Holding, make([]int, 20)); did != (mask>>i&1 == 1) {
				t.Errorf("of the devices %d, the one at %d is %v", mask, i, post.D)
			}
		}
	}
}

func FuzzQuiet(f *testing.F) {
	for i, b := range sampleLists() {
		f.Add(b[:min(len(b), 200)], uint8(i), uint8(5*i))
	}
	f.Fuzz(func(t *testing.T, b []byte, n uint8, mask uint8) {
		b = b[:min(len(b), 200)]
		becomesQuiet(t, "mixed", quietEvents(quietWorld(t, int(n), int(mask)), b, map[int]int{}))
		w := impl.Play(playWorld(t, int(n)), eventsOf(b))
		becomesQuiet(t, "played", w)
		settles(t, "played", w, int(mask)%20)
	})
}

// What the functions of chapter 17 are handed, and what they answer.
type (
	quietArgs struct {
		World  impl.World
		Rounds int
	}
	quietAnswer struct {
		World  impl.World
		Ok     bool
		Number int
	}
)

// quietAsks are the functions of chapter 17 by their names.
var quietAsks = map[string]func(quietArgs) quietAnswer{
	"Round":  func(a quietArgs) quietAnswer { return quietAnswer{World: impl.Round(a.World)} },
	"Settle": func(a quietArgs) quietAnswer { return quietAnswer{World: impl.Settle(a.World, a.Rounds)} },
	"Quiet":  func(a quietArgs) quietAnswer { return quietAnswer{Ok: impl.Quiet(a.World)} },
	"Enough": func(a quietArgs) quietAnswer { return quietAnswer{Number: impl.Enough(a.World)} },
}

// quietRounds are numbers of rounds at which Settle does something, and such at which it does not.
var quietRounds = []int{math.MinInt, -1, 0, 1, 2, 9, mostRounds + 1, math.MaxInt}

// Answers are new memory, in themselves, too; nothing is written into a world, nor into the room behind its lists, and
// that room is not read. Each is asked once, too: what turns lists about would turn them back the second time.
func TestRoundsAnswerNewMemory(t *testing.T) {
	worlds := append(roundWorlds(t), impl.World{})
	for what, list := range wrongWorlds() {
		if len(what)%4 == 0 && len(list[0].Replies) < 10 && len(list[0].Served) < 10 {
			worlds = append(worlds, list[0])
		}
	}
	for i, w := range worlds {
		for what, ask := range quietAsks {
			for _, n := range quietRounds {
				if what != "Settle" && n != 0 || i > 40 && n > 2 {
					continue
				}
				sharesNothing(t, what, quietArgs{w, n}, ask)
				once, was := roomyOf(reflect.ValueOf(w)), roomyOf(reflect.ValueOf(w))
				ask(quietArgs{once.Interface().(impl.World), n})
				if !sameWithRoom(once, was) {
					t.Errorf("%s: %v became %v", what, was, once)
				}
			}
		}
	}
}

// What an argument shares within itself, its answer does not.
func TestWhatRoundsShare(t *testing.T) {
	for i := range askKinds {
		wrong := sharedWorld(i)
		wrong.F.Asked = -1
		for _, w := range []impl.World{sharedWorld(i), wrong} {
			for _, n := range quietRounds {
				staysApart(t, "Settle", quietArgs{w, n}, quietAsks["Settle"])
			}
			staysApart(t, "Round", quietArgs{World: w}, quietAsks["Round"])
		}
	}
}

// What is answered hangs on the arguments alone: asked again, and in another order, it is the same.
func TestRoundsKeepNothing(t *testing.T) {
	var all []quietArgs
	for i, w := range roundWorlds(t) {
		all = append(all, quietArgs{w, i % 9}, quietArgs{w, -1})
	}
	answers := func() (out []string) {
		for _, a := range all {
			out = append(out, fmt.Sprint(quietAsks["Round"](a), quietAsks["Settle"](a), quietAsks["Quiet"](a), quietAsks["Enough"](a)))
		}
		return out
	}
	first := answers()
	slices.Reverse(all)
	again := answers()
	slices.Reverse(first)
	if !slices.Equal(first, again) {
		t.Fatal("asked in another order, other things are answered")
	}
}
