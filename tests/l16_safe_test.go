package tests

import (
	"fmt"
	"math"
	"reflect"
	"slices"
	"testing"

	"loop.example/g00129/impl"
)

// someFaults are those with names, the ones beside them, and the ends.
var someFaults = []int{1, 2, 3, 4, 5, 6, 7, 8, 9, 10, 11, 12, 13, 127, 128, 139, 254, 255}

// slowOnce is OnceEach as chapter 16 words it, sentence by sentence.
func slowOnce(w impl.World) bool {
	open := w.F.Open.List
	for i, r := range w.Replies {
		for _, other := range w.Replies[:i] {
			if r.Tag == other.Tag {
				return false
			}
		}
		for _, p := range open {
			if p.Tag == r.Tag {
				return false
			}
		}
	}
	for _, r := range w.Replies {
		if r.Tag >= w.F.Asked {
			return false
		}
	}
	for _, p := range open {
		if p.Tag >= w.F.Asked {
			return false
		}
	}
	return len(w.Replies)+len(open) == w.F.Asked
}

// slowRightEach is RightEach as chapter 16 words it.
func slowRightEach(w impl.World) bool {
	right := 0
	for _, r := range w.Replies {
		joined := len(r.Parts) == 0 || equalResp(r.Resp, impl.Joined(r.Req, r.Parts, r.Told))
		if impl.Suits(r.Req, r.Resp) && joined {
			right++
		}
	}
	return right == len(w.Replies)
}

// toldParts gives what parts of replies and of open matters were told, as what a device would have told under number 0.
func toldParts(w impl.World) (list []impl.Served) {
	put := func(p impl.Part, a impl.Resp) {
		list = append(list, impl.Served{Port: p.Port, Unit: p.Unit, Req: p.Req, Resp: a})
	}
	for _, r := range w.Replies {
		for i, p := range r.Parts {
			if i < len(r.Told) {
				put(p, r.Told[i])
			}
		}
	}
	for _, m := range w.F.Open.List {
		for i, p := range m.Parts {
			if i < len(m.Told) && i < len(m.Has) && m.Has[i] {
				put(p, m.Told[i])
			}
		}
	}
	return list
}

// toldByDevices leaves out what the fabric tells where no device answers.
func toldByDevices(w impl.World) []impl.Served {
	return slices.DeleteFunc(toldParts(w), func(s impl.Served) bool { return s.Resp.Fault == 11 })
}

// sameButNumber tells whether two devices told the same to the same, under whatever numbers.
func sameButNumber(a impl.Served, b impl.Served) bool {
	a.Number = b.Number
	return equalServed(a, b)
}

// slowServedEach is ServedEach as chapter 16 words it.
func slowServedEach(w impl.World) bool {
	for _, one := range toldByDevices(w) {
		if !slices.ContainsFunc(w.Served, func(s impl.Served) bool { return sameButNumber(s, one) }) {
			return false
		}
	}
	return true
}

// A verdict is what holds of a world.
type verdict struct{ fabric, once, right, served bool }

var (
	allHold  = verdict{true, true, true, true}
	notOnce  = verdict{true, false, true, true}
	notRight = verdict{true, true, false, true}
	unserved = verdict{true, true, true, false}
)

// number is what Safe tells then.
func (v verdict) number() int {
	for i, ok := range []bool{v.fabric, v.once, v.right, v.served} {
		if !ok {
			return i + 1
		}
	}
	return 0
}

func slowVerdict(w impl.World) verdict {
	return verdict{slowFabric(w.F), slowOnce(w), slowRightEach(w), slowServedEach(w)}
}

// holds wants of the chapter's functions that they tell this; the chapter's words must tell the same.
func holds(t *testing.T, what string, w impl.World, want verdict) {
	t.Helper()
	if slow := slowVerdict(w); slow != want {
		t.Fatalf("%s: as worded, %v holds, not %v, of %v", what, slow, want, w)
	}
	got := verdict{impl.FabricOk(w.F), impl.OnceEach(w), impl.RightEach(w), impl.ServedEach(w)}
	if got != want {
		t.Errorf("%s: %v holds, not %v, of %v", what, got, want, w)
	}
	if n := impl.Safe(w); n != want.number() {
		t.Errorf("%s: Safe is %d, not %d, of %v", what, n, want.number(), w)
	}
}

// deepWorld is a world of its own down to its last list, with marked room behind each.
func deepWorld(w impl.World) impl.World {
	return roomyOf(reflect.ValueOf(w)).Interface().(impl.World)
}

// A safeEdit changes a world, of which then this holds.
type safeEdit struct {
	what string
	edit func(*impl.World)
	want verdict
}

// edited wants of each edit, made alone, what it says.
func edited(t *testing.T, w impl.World, list []safeEdit) {
	t.Helper()
	for _, k := range list {
		own := deepWorld(w)
		k.edit(&own)
		holds(t, k.what, own, k.want)
	}
}

// toldRules part the words of unit 9 among three devices, the last of which is not there; the other spaces have one each.
func toldRules() []impl.Rule {
	return []impl.Rule{
		ruleOf(2, 0, 9, 0, 20, 0), ruleOf(2, 10, 19, 1, 21, -10), ruleOf(2, 20, 29, 2, 22, -20),
		ruleOf(3, 0, 60, 3, 23, 0), ruleOf(0, 0, 60, 4, 24, 2), ruleOf(1, 0, 30, 5, 25, 1),
	}
}

// toldAsks gives questions of each Kind, in one part and in several; to what is not there, and to what no device has.
func toldAsks() []impl.Req {
	return []impl.Req{
		askAt(3, 3, 2), askAt(3, 8, 4), askAt(4, 50, 2), askAt(3, 25, 1), askAt(3, 18, 4), askAt(15, 4, 9), askAt(1, 4, 11), bothAt(1, 3, 2, 4),
		askAt(22, 12, 1), askAt(6, 3, 1), askAt(5, 7, 1), askAt(16, 8, 4), askAt(2, 6, 9), askAt(4, 5, 3), askAt(3, 8, 20), askAt(16, 17, 5),
	}
}

// doAll does these events, each of which does something.
func doAll(t *testing.T, w impl.World, list ...impl.Event) impl.World {
	t.Helper()
	for _, e := range list {
		w = does(t, "one of all", w, e, true)
	}
	return w
}

// settled asks, and lets time go by, with nothing lost, until nothing is open.
func settled(t *testing.T, w impl.World, ask impl.Event) impl.World {
	t.Helper()
	w = doAll(t, w, ask)
	for len(w.F.Open.List) > 0 {
		w = doAll(t, w, tickEvent)
		for len(w.Net) > 0 {
			w = doAll(t, w, deliverAt(0))
		}
	}
	return w
}

// toldWorld gives a world that WorldNew made behind events: each of toldAsks was replied to, one question at once, one
// that was given up and one with a fault of its device. Two matters are open: of three parts of the first one the first
// was told by a device, the last one FaultTarget, and the middle one was served and not told; the second one's was not.
func toldWorld(t *testing.T) impl.World {
	t.Helper()
	posts := []impl.Post{postOf(0, 20), postOf(1, 21), postOf(3, 23), postOf(4, 24), postOf(5, 25)}
	w, _ := impl.WorldNew(impl.Config{Wait: 2, Rules: toldRules()}, posts)
	w = doAll(t, w, askOf(1, 8, askAt(3, 0, 1)))
	for i, q := range toldAsks() {
		w = settled(t, w, askOf(i, 9, q))
	}
	w = doAll(t, w, askOf(70, 9, askAt(6, 15, 1)), askOf(71, 9, askAt(3, 7, 14)), askOf(72, 9, askAt(4, 40, 2)), askOf(73, 9, askAt(3, 5, 1)))
	w = doAll(t, w, tickEvent, deliverAt(0), deliverAt(3), deliverAt(2), deliverAt(2))
	return doAll(t, w, dropAt(0), dropAt(0), tickEvent, tickEvent, deliverAt(1))
}

// The sample has what the tests below are about.
func TestToldWorldHasAll(t *testing.T) {
	w := toldWorld(t)
	holds(t, "told", w, allHold)
	open := w.F.Open.List
	if n := len(toldAsks()); w.F.Asked != n+5 || len(w.Replies) != n+3 || len(open) != 2 {
		t.Fatalf("%d were asked, %d replied to, and %v is open", w.F.Asked, len(w.Replies), open)
	}
	if first := open[0]; !slices.Equal(first.Has, []bool{true, false, true}) || first.Told[2].Fault != 11 || first.Told[0].Fault != 0 {
		t.Errorf("%v is open", first)
	}
	if second := open[1]; !slices.Equal(second.Has, []bool{false}) {
		t.Errorf("%v is open", second)
	}
	parts, faults := map[int]int{}, map[int]int{}
	for _, r := range w.Replies {
		parts[len(r.Parts)]++
		faults[r.Resp.Fault]++
	}
	if want := fmt.Sprint(map[int]int{0: 1, 1: 13, 2: 4, 3: 1}, map[int]int{0: 11, impl.FaultPath: 1, impl.FaultAt: 2, impl.FaultTarget: 5}); fmt.Sprint(parts, faults) != want {
		t.Errorf("replies of so many parts, with such faults: %v, %v, not %v", parts, faults, want)
	}
	if needed := toldByDevices(w); len(needed) != 20 || len(w.Served) != 21 {
		t.Errorf("%d parts were told by devices, of %d served", len(needed), len(w.Served))
	}
}

func TestSafeOfNothing(t *testing.T) {
	holds(t, "the zero world", impl.World{}, verdict{false, true, true, true})
	for i, c := range rightConfigs() {
		w, _ := impl.WorldNew(c, rightPosts()[i%len(rightPosts())])
		holds(t, "a new world", w, allHold)
	}
	plain := impl.FabricNew(impl.Config{Wait: 2})
	holds(t, "a new fabric alone", impl.World{F: plain}, allHold)
	holds(t, "empty lists", impl.World{F: plain, Posts: []impl.Post{}, Net: []impl.Packet{}, Replies: []impl.Reply{}, Served: []impl.Served{}}, allHold)
}

// withoutReplies is as if only what is open had been asked.
func withoutReplies(w *impl.World) {
	w.F.Asked, w.Replies = len(w.F.Open.List), nil
	for i := range w.F.Open.List {
		w.F.Open.List[i].Tag = i
	}
}

// withoutOpen is as if only what was replied to had been asked.
func withoutOpen(w *impl.World) {
	w.F.Asked, w.F.Open.List = len(w.Replies), nil
	for i := range w.Replies {
		w.Replies[i].Tag = i
	}
	for port := range w.F.Lines {
		w.F.Lines[port] = impl.LineNew(2, 0)
	}
}

func withoutServed(w *impl.World) { w.Served = nil }

// both does these edits one behind the other.
func both(list ...func(*impl.World)) func(*impl.World) {
	return func(w *impl.World) {
		for _, edit := range list {
			edit(w)
		}
	}
}

func TestSafeWithoutSomething(t *testing.T) {
	edited(t, toldWorld(t), []safeEdit{
		{"no replies", withoutReplies, allHold},
		{"nothing open", withoutOpen, allHold},
		{"nothing served", withoutServed, unserved},
		{"no replies, nothing open", both(withoutReplies, withoutOpen), allHold},
		{"no replies, nothing served", both(withoutReplies, withoutServed), unserved},
		{"nothing open, nothing served", both(withoutOpen, withoutServed), unserved},
		{"none of all", both(withoutReplies, withoutOpen, withoutServed), allHold},
		{"no replies, but as many asked", func(w *impl.World) { w.Replies = nil }, notOnce},
		{"no replies, tags as they were", func(w *impl.World) { w.F.Asked, w.Replies = 2, nil }, notOnce},
		{"nothing on its way, no posts", func(w *impl.World) { w.Net, w.Posts = nil, nil }, allHold},
	})
}

func TestOnceEachOfWhatKeepsAllFour(t *testing.T) {
	w := toldWorld(t)
	last := len(w.Replies) - 1
	list := []safeEdit{
		{"replies in another order", func(w *impl.World) { slices.Reverse(w.Replies) }, allHold},
		{"a tag below 0", func(w *impl.World) { w.Replies[0].Tag = -1 }, allHold},
		{"tags far below 0", func(w *impl.World) { w.Replies[0].Tag, w.Replies[1].Tag = math.MinInt, math.MinInt+1 }, allHold},
		{"two that are open have one tag", func(w *impl.World) { w.F.Open.List[0].Tag = w.F.Open.List[1].Tag }, allHold},
		{"another unit", func(w *impl.World) { w.F.Open.List[0].Unit = 1000 }, allHold},
		{"what else the fabric counts", func(w *impl.World) { w.F.Replied, w.F.Faults, w.F.Sent = 0, mostCount, 3 }, allHold},
		{"ids as they are not", func(w *impl.World) { w.F.Open.Next = mostId }, allHold},
	}
	for i := range w.Replies {
		list = append(list,
			safeEdit{fmt.Sprint("source 7 asked for reply ", i), func(w *impl.World) { w.Replies[i].Source = 7 }, allHold},
			safeEdit{fmt.Sprint("the tags of reply ", i, " and the last one"), func(w *impl.World) {
				w.Replies[i].Tag, w.Replies[last].Tag = w.Replies[last].Tag, w.Replies[i].Tag
			}, allHold})
		for j := range w.F.Open.List {
			list = append(list, safeEdit{fmt.Sprint("the tags of reply ", i, " and open ", j), func(w *impl.World) {
				w.Replies[i].Tag, w.F.Open.List[j].Tag = w.F.Open.List[j].Tag, w.Replies[i].Tag
			}, allHold})
		}
	}
	edited(t, w, list)
}

func TestOnceEachOfTwoRepliesOfOneTag(t *testing.T) {
	w := toldWorld(t)
	var list []safeEdit
	for i := range w.Replies {
		for j := range w.Replies {
			if i != j {
				list = append(list, safeEdit{fmt.Sprint("replies ", i, " and ", j), func(w *impl.World) { w.Replies[i].Tag = w.Replies[j].Tag }, notOnce})
			}
		}
		list = append(list, safeEdit{fmt.Sprint("reply ", i, " twice, and one more asked"), func(w *impl.World) {
			w.Replies = append(w.Replies, w.Replies[i])
			w.F.Asked++
		}, notOnce})
	}
	list = append(list, safeEdit{"below 0", func(w *impl.World) { w.Replies[2].Tag, w.Replies[5].Tag = -1, -1 }, notOnce})
	edited(t, w, list)
}

func TestOnceEachOfATagThatIsOpen(t *testing.T) {
	w := toldWorld(t)
	var list []safeEdit
	for i := range w.Replies {
		for j := range w.F.Open.List {
			list = append(list,
				safeEdit{fmt.Sprint("reply ", i, " as open ", j), func(w *impl.World) { w.Replies[i].Tag = w.F.Open.List[j].Tag }, notOnce},
				safeEdit{fmt.Sprint("open ", j, " as reply ", i), func(w *impl.World) { w.F.Open.List[j].Tag = w.Replies[i].Tag }, notOnce})
		}
	}
	edited(t, w, list)
}

func TestOnceEachOfATagThatWasNotAsked(t *testing.T) {
	w := toldWorld(t)
	var list []safeEdit
	for _, n := range []int{w.F.Asked, w.F.Asked + 1, w.F.Asked + 1000, mostId} {
		for i := range w.Replies {
			list = append(list, safeEdit{fmt.Sprint("the tag ", n, " of reply ", i), func(w *impl.World) { w.Replies[i].Tag = n }, notOnce})
		}
		for j := range w.F.Open.List {
			list = append(list, safeEdit{fmt.Sprint("the tag ", n, " of open ", j), func(w *impl.World) { w.F.Open.List[j].Tag = n }, notOnce})
		}
	}
	for _, n := range []int{1 << 32, math.MaxInt - 1, math.MaxInt} {
		list = append(list,
			safeEdit{fmt.Sprint("the tag ", n, " of a reply"), func(w *impl.World) { w.Replies[3].Tag = n }, notOnce},
			safeEdit{fmt.Sprint("the tag ", n, " of what is open"), func(w *impl.World) { w.F.Open.List[1].Tag = n }, verdict{false, false, true, true}})
	}
	edited(t, w, list)
}

func TestOnceEachOfAnotherCount(t *testing.T) {
	w := toldWorld(t)
	var list []safeEdit
	for _, n := range []int{w.F.Asked + 1, w.F.Asked + 2, w.F.Asked + 1<<16, mostCount} {
		list = append(list, safeEdit{fmt.Sprint(n, " were asked"), func(w *impl.World) { w.F.Asked = n }, notOnce})
	}
	for i := range w.Replies {
		list = append(list,
			safeEdit{fmt.Sprint("without reply ", i), func(w *impl.World) { w.Replies = slices.Delete(w.Replies, i, i+1) }, notOnce},
			safeEdit{fmt.Sprint("reply ", i, " once more, with a tag below 0"), func(w *impl.World) {
				w.Replies = append(w.Replies, w.Replies[i])
				w.Replies[i].Tag = -1
			}, notOnce})
	}
	noFabric := verdict{false, false, true, true}
	list = append(list,
		safeEdit{"one more than were asked, all tags apart and below", func(w *impl.World) {
			withoutOpen(w)
			w.F.Asked--
			w.Replies[w.F.Asked].Tag = -1
		}, notOnce},
		safeEdit{"one more open than was asked, all tags below", func(w *impl.World) {
			withoutReplies(w)
			w.F.Asked--
			w.F.Open.List[1].Tag = 0
		}, notOnce},
		safeEdit{"without one that is open", func(w *impl.World) { w.F.Open.List = w.F.Open.List[:1] }, noFabric},
		safeEdit{"none asked", func(w *impl.World) { w.F.Asked = 0 }, notOnce},
		safeEdit{"fewer than none asked", func(w *impl.World) { w.F.Asked = -w.F.Asked }, noFabric},
		safeEdit{"asked more often than is counted", func(w *impl.World) { w.F.Asked += 1 << 32 }, noFabric})
	edited(t, w, list)
}

// resped is an edit of what reply i was told.
func resped(i int, what string, a impl.Resp, want verdict) safeEdit {
	return safeEdit{fmt.Sprint("reply ", i, ": ", what), func(w *impl.World) { w.Replies[i].Resp = a }, want}
}

func TestRightEachOfWhatDoesNotSuit(t *testing.T) {
	w := toldWorld(t)
	var list []safeEdit
	for i, r := range w.Replies {
		for j, a := range notSuiting(r.Req) {
			list = append(list, resped(i, fmt.Sprint("what does not suit, ", j), a, notRight))
		}
		for j, q := range append([]impl.Req{{}}, wrongQuestions()...) {
			asked := func(w *impl.World) { w.Replies[i].Req = q }
			// to what is no question Joined tells the zero Resp, which does not suit
			nothing := func(w *impl.World) { w.Replies[i].Resp = impl.Resp{} }
			list = append(list,
				safeEdit{fmt.Sprint("reply ", i, " to no question, ", j), asked, notRight},
				safeEdit{fmt.Sprint("reply ", i, " to no question, told nothing, ", j), both(asked, nothing), notRight})
		}
	}
	edited(t, w, list)
}

// othersThatSuit gives answers to what reads, each of which differs from a in one word or bit, and suits it as a does.
func othersThatSuit(q impl.Req, a impl.Resp) (list []impl.Resp) {
	if a.Fault != 0 || q.N == 0 {
		return nil
	}
	for i := range q.N {
		other := cloneResp(a)
		if q.Kind <= 2 {
			other.Bits[i] = !other.Bits[i]
		} else {
			other.Words[i] ^= 1 << (i % 16)
		}
		list = append(list, other)
	}
	return list
}

// A reply of parts is told what is joined of them and nothing else; one of none may be told all that suits.
func TestRightEachOfWhatIsNotJoined(t *testing.T) {
	w := toldWorld(t)
	var list []safeEdit
	for i, r := range w.Replies {
		want := notRight
		if len(r.Parts) == 0 {
			want = allHold
		}
		for _, fault := range someFaults {
			if a := impl.FaultOf(r.Req, fault); fault != r.Resp.Fault {
				list = append(list, resped(i, fmt.Sprint("the fault ", fault), a, want))
			}
		}
		if r.Resp.Fault != 0 {
			list = append(list, resped(i, "no fault", fitting(r.Req), want))
		}
		for j, a := range othersThatSuit(r.Req, r.Resp) {
			list = append(list, resped(i, fmt.Sprint("another one, ", j), a, notRight))
		}
	}
	edited(t, w, list)
}

// retold is an edit of reply i: its parts were told this, and it a.
func retold(i int, what string, told []impl.Resp, a impl.Resp, want verdict) safeEdit {
	return safeEdit{fmt.Sprint("reply ", i, ": ", what), func(w *impl.World) { w.Replies[i].Told, w.Replies[i].Resp = told, a }, want}
}

// Where a part was told nothing that suits it, FaultDevice is what is joined.
func TestRightEachOfPartsThatWereToldOtherwise(t *testing.T) {
	w := toldWorld(t)
	var list []safeEdit
	for i, r := range w.Replies {
		device := impl.FaultOf(r.Req, impl.FaultDevice)
		if len(r.Parts) == 0 {
			some := []impl.Resp{fitting(r.Req), {Kind: 9, Fault: 3}}
			list = append(list, retold(i, "told without parts", some, r.Resp, allHold), retold(i, "told another one without parts", some, device, allHold))
			continue
		}
		fewer, more := r.Told[:len(r.Told)-1], append(slices.Clone(r.Told), r.Told[0])
		list = append(list,
			retold(i, "one fewer", fewer, r.Resp, notRight),
			retold(i, "none", nil, r.Resp, notRight),
			retold(i, "one more", more, r.Resp, notRight),
			retold(i, "one fewer, and that told", fewer, device, allHold),
			retold(i, "none, and that told", nil, device, allHold),
			retold(i, "one more, and that told", more, device, allHold),
			safeEdit{fmt.Sprint("reply ", i, " without its parts"), func(w *impl.World) { w.Replies[i].Parts = nil }, allHold},
			safeEdit{fmt.Sprint("reply ", i, " of empty parts, told nothing"), func(w *impl.World) { w.Replies[i].Parts, w.Replies[i].Told = []impl.Part{}, nil }, allHold})
		for j := range r.Told {
			told := slices.Clone(r.Told)
			told[j] = impl.Resp{}
			list = append(list, retold(i, "a part not told", told, r.Resp, verdict{true, true, false, false}), retold(i, "a part not told, and that told", told, device, unserved))
		}
	}
	edited(t, w, list)
}

// Each reply is looked at, wherever it stands among many.
func TestEachReplyCounts(t *testing.T) {
	q := askAt(3, 4, 1)
	for _, at := range []int{0, 1, 17, 98, 99} {
		w := impl.World{F: impl.FabricNew(impl.Config{Wait: 1})}
		w.F.Asked = 100
		for i := range 100 {
			w.Replies = append(w.Replies, impl.Reply{Tag: (i * 37) % 100, Req: q, Resp: impl.FaultOf(q, impl.FaultBusy)})
		}
		part := impl.Part{Port: 2, Unit: 3, Req: q}
		edited(t, w, []safeEdit{
			{"all of them", func(*impl.World) {}, allHold},
			{"one tag", func(w *impl.World) { w.Replies[at].Tag = 100 }, notOnce},
			{"two tags", func(w *impl.World) { w.Replies[at].Tag = w.Replies[(at+50)%100].Tag }, notOnce},
			{"one answer", func(w *impl.World) { w.Replies[at].Resp.Kind = 4 }, notRight},
			{"one part", func(w *impl.World) {
				w.Replies[at].Parts, w.Replies[at].Told = []impl.Part{part}, []impl.Resp{fitting(q)}
				w.Replies[at].Resp = fitting(q)
			}, unserved},
		})
	}
}

// unlike gives edits of what a device told, by the field that each of them changes alone.
func unlike() map[string]func(*impl.Served) {
	return map[string]func(*impl.Served){
		"Port more":       func(s *impl.Served) { s.Port++ },
		"Port less":       func(s *impl.Served) { s.Port-- },
		"Unit more":       func(s *impl.Served) { s.Unit++ },
		"Unit less":       func(s *impl.Served) { s.Unit-- },
		"Req Kind":        func(s *impl.Served) { s.Req.Kind ^= 1 },
		"Req At":          func(s *impl.Served) { s.Req.At++ },
		"Req N":           func(s *impl.Served) { s.Req.N++ },
		"Req WAt":         func(s *impl.Served) { s.Req.WAt++ },
		"Req Words more":  func(s *impl.Served) { s.Req.Words = append(s.Req.Words, 0) },
		"Req Bits more":   func(s *impl.Served) { s.Req.Bits = append(s.Req.Bits, false) },
		"Req none":        func(s *impl.Served) { s.Req = impl.Req{} },
		"Resp Kind":       func(s *impl.Served) { s.Resp.Kind ^= 1 },
		"Resp Fault":      func(s *impl.Served) { s.Resp.Fault++ },
		"Resp At":         func(s *impl.Served) { s.Resp.At++ },
		"Resp N":          func(s *impl.Served) { s.Resp.N++ },
		"Resp Words more": func(s *impl.Served) { s.Resp.Words = append(s.Resp.Words, 0) },
		"Resp Bits more":  func(s *impl.Served) { s.Resp.Bits = append(s.Resp.Bits, false) },
		"Resp none":       func(s *impl.Served) { s.Resp = impl.Resp{} },
	}
}

// unlikeIn gives edits of single words and bits of what a device told.
func unlikeIn(s impl.Served) map[string]func(*impl.Served) {
	list := map[string]func(*impl.Served){}
	for i := range s.Req.Words {
		list[fmt.Sprint("Req word ", i)] = func(s *impl.Served) { s.Req.Words[i] ^= 256 }
	}
	for i := range s.Req.Bits {
		list[fmt.Sprint("Req bit ", i)] = func(s *impl.Served) { s.Req.Bits[i] = !s.Req.Bits[i] }
	}
	for i := range s.Resp.Words {
		list[fmt.Sprint("Resp word ", i)] = func(s *impl.Served) { s.Resp.Words[i] ^= 1 }
	}
	for i := range s.Resp.Bits {
		list[fmt.Sprint("Resp bit ", i)] = func(s *impl.Served) { s.Resp.Bits[i] = !s.Resp.Bits[i] }
	}
	return list
}

func cloneServed(s impl.Served) impl.Served {
	s.Req, s.Resp = cloneReq(s.Req), cloneResp(s.Resp)
	return s
}

// instead puts these in the place of all that a device told as s, or, of none, leaves that out.
func instead(s impl.Served, others ...impl.Served) func(*impl.World) {
	return func(w *impl.World) {
		w.Served = slices.DeleteFunc(w.Served, func(one impl.Served) bool { return sameButNumber(one, s) })
		for _, other := range others {
			w.Served = append(w.Served, cloneServed(other))
		}
	}
}

// Of each part that a device told there must be a Served that is of its Port, Unit, Req and Resp, whatever its Number.
func TestServedEachOfEachField(t *testing.T) {
	w := toldWorld(t)
	var list []safeEdit
	for i, s := range toldByDevices(w) {
		put := func(what string, edit func(*impl.World), want verdict) {
			list = append(list, safeEdit{fmt.Sprint("part ", i, " of those told, ", what), edit, want})
		}
		put("left out", instead(s), unserved)
		for _, number := range []int{-1, 0, 1, 65535, 65536, math.MaxInt, math.MinInt} {
			numbered := s
			numbered.Number = number
			put("another Number", instead(s, numbered), allHold)
		}
		edits := unlike()
		for what, edit := range unlikeIn(s) {
			edits[what] = edit
		}
		for what, edit := range edits {
			other := cloneServed(s)
			edit(&other)
			put(what, instead(s, other), unserved)
			put(what+" behind it", instead(s, s, other), allHold)
			put(what+" ahead of it", instead(s, other, s), allHold)
		}
		empty := cloneServed(s)
		empty.Req.Words, empty.Resp.Bits = append([]int{}, s.Req.Words...), append([]bool{}, s.Resp.Bits...)
		put("empty lists", instead(s, empty), allHold)
	}
	edited(t, w, list)
}

// What two devices told is not what one told: each field must be that of one and the same.
func TestServedEachOfSeveralTogether(t *testing.T) {
	w := toldWorld(t)
	var list []safeEdit
	for i, s := range toldByDevices(w) {
		port, unit, req, resp := cloneServed(s), cloneServed(s), cloneServed(s), cloneServed(s)
		port.Port++
		unit.Unit++
		req.Req.At++
		resp.Resp.Fault++
		list = append(list, safeEdit{fmt.Sprint("part ", i, ", each of four but one"), instead(s, port, unit, req, resp), unserved})
	}
	edited(t, w, list)
}

// What devices told that no part was told, or twice, is of no matter.
func TestServedEachOfMore(t *testing.T) {
	edited(t, toldWorld(t), []safeEdit{
		{"all twice", func(w *impl.World) { w.Served = slices.Repeat(w.Served, 2) }, allHold},
		{"in another order", func(w *impl.World) { slices.Reverse(w.Served) }, allHold},
		{"what was served of none", func(w *impl.World) { w.Served = append([]impl.Served{{}, {Port: -1, Unit: 999}}, w.Served...) }, allHold},
		{"what a part of an open matter was not told", func(w *impl.World) { w.Served = w.Served[:len(w.Served)-1] }, allHold},
		{"more than a right world has", func(w *impl.World) { w.Served = slices.Repeat(w.Served, 300) }, allHold},
	})
}

// faulty gives an edit by which part j of reply i was told this fault, and so the reply, where no other part tells one.
func faulty(i int, j int, fault int) func(*impl.World) {
	return func(w *impl.World) {
		r := &w.Replies[i]
		r.Told[j], r.Resp = impl.FaultOf(r.Parts[j].Req, fault), impl.FaultOf(r.Req, fault)
	}
}

// FaultTarget alone needs no device.
func TestServedEachOfEachFaultOfAReply(t *testing.T) {
	w := toldWorld(t)
	var list []safeEdit
	for i, r := range w.Replies {
		for j, a := range r.Told {
			if a.Fault == 0 && r.Resp.Fault != 0 {
				continue // another part tells the reply's fault
			}
			for _, fault := range someFaults {
				edit, p := faulty(i, j, fault), r.Parts[j]
				told := impl.Served{Port: p.Port, Unit: p.Unit, Req: p.Req, Resp: impl.FaultOf(p.Req, fault)}
				want := unserved
				if fault == 11 || fault == a.Fault {
					want = allHold
				}
				list = append(list, safeEdit{fmt.Sprint("reply ", i, ", part ", j, ", the fault ", fault), edit, want})
				list = append(list, safeEdit{"told so by a device", both(edit, func(w *impl.World) { w.Served = append(w.Served, told) }), allHold})
			}
		}
	}
	edited(t, w, list)
}

// What is told of a part of an open matter is held against Served as if it were replied; what was not told is not.
func TestServedEachOfWhatIsOpen(t *testing.T) {
	w := toldWorld(t)
	first := w.F.Open.List[0]
	var list []safeEdit
	for fault := 1; fault <= 255; fault++ {
		for _, j := range []int{0, 2} {
			p, a := first.Parts[j], impl.FaultOf(first.Parts[j].Req, fault)
			edit := func(w *impl.World) { w.F.Open.List[0].Told[j] = a }
			served := func(w *impl.World) {
				w.Served = append(w.Served, impl.Served{Port: p.Port, Unit: p.Unit, Req: p.Req, Resp: a})
			}
			want := unserved
			if fault == 11 {
				want = allHold
			}
			list = append(list, safeEdit{fmt.Sprint("part ", j, ", the fault ", fault), edit, want}, safeEdit{"told so by a device", both(edit, served), allHold})
		}
	}
	other := cloneResp(first.Told[0])
	other.Words[1] ^= 1
	onMatter := func(edit func(*impl.Pend)) func(*impl.World) {
		return func(w *impl.World) { edit(&w.F.Open.List[0]) }
	}
	// a part that was told, though its call still waits, or that was not, though it has none: no right fabric
	no, noServed := verdict{false, true, true, true}, verdict{false, true, true, false}
	toldMiddle := w.Served[len(w.Served)-1].Resp
	list = append(list,
		safeEdit{"another word", onMatter(func(p *impl.Pend) { p.Told[0] = other }), unserved},
		safeEdit{"the middle part, as it was served", onMatter(func(p *impl.Pend) { p.Has[1], p.Told[1] = true, toldMiddle }), no},
		safeEdit{"the middle part, as it was not served", onMatter(func(p *impl.Pend) { p.Has[1], p.Told[1] = true, impl.FaultOf(p.Parts[1].Req, 2) }), noServed},
		safeEdit{"the middle part, told nothing", onMatter(func(p *impl.Pend) { p.Has[1] = true }), noServed},
		safeEdit{"the middle part, not told what it has", onMatter(func(p *impl.Pend) { p.Told[1] = impl.FaultOf(p.Parts[1].Req, 2) }), no},
		safeEdit{"none told, though served", onMatter(func(p *impl.Pend) { p.Has[0], p.Has[2], p.Told[0], p.Told[2] = false, false, impl.Resp{}, impl.Resp{} }), no},
		safeEdit{"none told, nothing served of it", both(instead(impl.Served{Port: 0, Unit: 20, Req: first.Parts[0].Req, Resp: first.Told[0]}), onMatter(func(p *impl.Pend) { p.Has[0], p.Told[0] = false, impl.Resp{} })), no},
		safeEdit{"the second matter, told", func(w *impl.World) {
			p := &w.F.Open.List[1]
			p.Has[0], p.Told[0] = true, fitting(p.Req)
		}, noServed})
	edited(t, w, list)
}

// Lists that are not as long as the parts: what is not there was not told, and what has no part is none.
func TestServedEachOfListsOfOtherLengths(t *testing.T) {
	no := verdict{false, true, true, true}
	w := toldWorld(t)
	var list []safeEdit
	put := func(what string, edit func(*impl.Pend), want verdict) {
		list = append(list, safeEdit{what, func(w *impl.World) { edit(&w.F.Open.List[0]) }, want})
	}
	for n := range 3 {
		put(fmt.Sprint(n, " parts"), func(p *impl.Pend) { p.Parts = p.Parts[:n] }, no)
		put(fmt.Sprint(n, " of which it is known whether they were told"), func(p *impl.Pend) { p.Has = p.Has[:n] }, no)
		put(fmt.Sprint(n, " told"), func(p *impl.Pend) { p.Told = p.Told[:n] }, no)
		put(fmt.Sprint(n, " told, of those that were"), func(p *impl.Pend) {
			p.Told = p.Told[:n]
			p.Has = []bool{true, true, true}
		}, verdict{false, true, true, n < 2})
	}
	put("one more told", func(p *impl.Pend) { p.Told, p.Has = append(p.Told, fitting(p.Req)), append(p.Has, true) }, no)
	put("no parts", func(p *impl.Pend) { p.Parts, p.Has, p.Told = nil, []bool{true}, []impl.Resp{{}} }, no)
	for i, r := range w.Replies {
		if len(r.Parts) == 0 {
			continue
		}
		list = append(list, safeEdit{fmt.Sprint("reply ", i, " of fewer parts"), func(w *impl.World) {
			r := &w.Replies[i]
			r.Parts = r.Parts[:len(r.Parts)-1]
			r.Resp = impl.Joined(r.Req, r.Parts, r.Told)
			if len(r.Parts) == 0 {
				r.Resp = impl.FaultOf(r.Req, impl.FaultBusy)
			}
		}, allHold})
	}
	edited(t, w, list)
}

// breakers break one of the four alone: what is told to them first, what Safe tells then.
func breakers(w impl.World) [][]func(*impl.World) {
	return [][]func(*impl.World){
		{
			func(w *impl.World) { w.F.Now = -1 },
			func(w *impl.World) { w.F.Lines = nil },
			func(w *impl.World) { w.F.Set.Wait = 0 },
			func(w *impl.World) { w.F.Sent = mostCount + 1 },
			func(w *impl.World) { w.F.Lines[0].Call.Unit++ },
			func(w *impl.World) { w.F.Open.Next = w.F.Open.List[1].Id },
		},
		{
			func(w *impl.World) { w.F.Asked++ },
			func(w *impl.World) { w.Replies[4].Tag = w.Replies[9].Tag },
			func(w *impl.World) { w.Replies[7].Tag = w.F.Open.List[0].Tag },
			func(w *impl.World) { w.F.Open.List[1].Tag = mostId },
		},
		{
			func(w *impl.World) { w.Replies[0].Resp = impl.Resp{} },
			func(w *impl.World) { w.Replies[5].Resp = impl.FaultOf(w.Replies[5].Req, 6) },
			func(w *impl.World) { w.Replies[2].Told = append(w.Replies[2].Told, w.Replies[2].Told[0]) },
		},
		{
			withoutServed,
			instead(toldByDevices(w)[0]),
			instead(toldByDevices(w)[19]),
			func(w *impl.World) { w.F.Open.List[0].Told[2] = impl.FaultOf(w.F.Open.List[0].Parts[2].Req, 10) },
		},
	}
}

// Of each choice among the four, broken in each way, Safe tells the first.
func TestSafeTellsTheFirst(t *testing.T) {
	w := toldWorld(t)
	ways := breakers(w)
	var list []safeEdit
	for choice := range 16 {
		broken := func(i int) bool { return choice>>i&1 == 1 }
		want := verdict{!broken(0), !broken(1), !broken(2), !broken(3)}
		for turn := range 12 {
			edit := func(w *impl.World) {
				for i := range ways {
					if broken(i) {
						ways[i][turn%len(ways[i])](w)
					}
				}
			}
			list = append(list, safeEdit{fmt.Sprint("broken are ", choice, ", in the way ", turn), edit, want})
		}
	}
	edited(t, w, list)
	for number, first := range ways {
		for _, edit := range first {
			own := deepWorld(w)
			edit(&own)
			if n := impl.Safe(own); n != number+1 {
				t.Errorf("Safe is %d, not %d, of %v", n, number+1, own)
			}
		}
	}
}

// What is safe is asked of a world that is not WorldOk, too, where the fabric is right.
func TestSafeOfAWorldThatIsNotRight(t *testing.T) {
	for _, k := range []safeEdit{
		{"packets that are none", func(w *impl.World) { w.Net = []impl.Packet{{}, {Port: -1}} }, allHold},
		{"too many packets", func(w *impl.World) { w.Net = slices.Repeat(w.Net, 100) }, allHold},
		{"two posts of one unit", func(w *impl.World) { w.Posts = append(w.Posts, w.Posts[0]) }, allHold},
		{"posts that are none", func(w *impl.World) { w.Posts = []impl.Post{{Port: 9}} }, allHold},
		{"too much served", func(w *impl.World) { w.Served = slices.Repeat(w.Served, 300) }, allHold},
	} {
		w := deepWorld(toldWorld(t))
		k.edit(&w)
		worldIs(t, k.what, w, false)
		holds(t, k.what, w, k.want)
	}
}

// deskWorld gives a world that WorldNew made, and nothing else; n tells the settings and the posts.
func deskWorld(t *testing.T, n int) impl.World {
	t.Helper()
	rules := deskRules(n % 5)
	w, ok := impl.WorldNew(impl.Config{Wait: 1 + n%4, Tries: n % 3, Rules: rules}, playPosts(rules, n))
	if !ok {
		t.Fatalf("%v makes no world", rules)
	}
	return w
}

// staysSafe wants that behind each of these events all holds; it hands out the world behind them.
func staysSafe(t *testing.T, w impl.World, list []impl.Event) impl.World {
	t.Helper()
	holds(t, "ahead of all events", w, allHold)
	for i, e := range list {
		w, _ = impl.Do(w, e)
		holds(t, fmt.Sprint("behind the event ", i, ", ", e), w, allHold)
		if t.Failed() {
			t.FailNow()
		}
	}
	return w
}

// Of a world that WorldNew made, by whatever events, Safe is 0.
func TestSafeBehindEachEvent(t *testing.T) {
	for seed := range 60 {
		list := eventsOf(sampleBytes(uint32(seed+1600), 600))
		w := staysSafe(t, deskWorld(t, seed), list)
		holds(t, "played", impl.Play(deskWorld(t, seed), list), allHold)
		if w.F.Asked == 0 {
			t.Errorf("row %d asks nothing", seed)
		}
	}
	for seed := range 12 {
		staysSafe(t, playWorld(t, seed), eventsOf(sampleBytes(uint32(seed+1700), 300)))
	}
}

// mixedEvent gives an event that does something at most times: n tells which, x and y tell more.
func mixedEvent(w impl.World, n int, x int, y int) impl.Event {
	at := x % max(1, len(w.Net))
	switch n % 8 {
	case 0, 1:
		return askOf(x, 9, deskAsk(x, y))
	case 2:
		return askOf(y, 7+x%3, deskAsk(y, x))
	case 3:
		return tickEvent
	case 4:
		return []impl.Event{dropAt(at), doubleAt(at)}[y%2]
	case 5:
		return swapFor(deskRules(y % 5)...)
	default:
		return deliverAt(at)
	}
}

// Packets are delivered from any place, dropped and doubled, and rules swapped, all the time; each Kind does something.
func TestSafeWhereAllGoesAstray(t *testing.T) {
	did, partly, late := map[int]int{}, 0, 0
	for seed := range 20 {
		w := deskWorld(t, seed)
		b := sampleBytes(uint32(seed+1800), 900)
		for i := 0; i < len(b); i += 3 {
			e := mixedEvent(w, int(b[i]), int(b[i+1]), int(b[i+2]))
			next, ok := impl.Do(w, e)
			holds(t, fmt.Sprint("behind ", e), next, allHold)
			if ok {
				did[e.Kind]++
			}
			if ok && e.Kind == 3 && w.Net[e.At].Back && len(next.F.Open.List) == len(w.F.Open.List) {
				late++
			}
			for _, p := range next.F.Open.List {
				if slices.Contains(p.Has, true) {
					partly++
				}
			}
			w = next
		}
	}
	for kind := 1; kind <= 6; kind++ {
		if did[kind] < 50 {
			t.Errorf("events of kind %d did something %d times", kind, did[kind])
		}
	}
	if partly < 50 || late < 50 {
		t.Errorf("%d matters that were told in part, %d answers passed over", partly, late)
	}
}

// A world in which much more was told than a right one has stays safe, also where the last of its tags is open or replied to.
func TestSafeOfAWorldThatWasToldMuch(t *testing.T) {
	w := deskWorld(t, 1)
	for range 20 {
		w = impl.Play(w, slices.Repeat([]impl.Event{askOf(1, 8, askAt(3, 5, 2))}, 300))
	}
	if len(w.Replies) != 5100 {
		t.Fatalf("%d replies", len(w.Replies))
	}
	holds(t, "much", w, allHold)
	worldIs(t, "much", w, false)
	last := len(w.Replies) - 1
	edited(t, w, []safeEdit{
		{"the first again", func(w *impl.World) { w.Replies[last].Tag = 0 }, notOnce},
		{"one that was not asked", func(w *impl.World) { w.Replies[last].Tag = last + 1 }, notOnce},
		{"one more", func(w *impl.World) { w.F.Asked++ }, notOnce},
		{"the last answer", func(w *impl.World) { w.Replies[last].Resp.Kind = 4 }, notRight},
	})
}

// Doubles come late, and are served again, while other questions are asked: each reply is by what was served for it.
func TestSafeOfAWorldThatServedMuch(t *testing.T) {
	w := oneDevice()
	for i := range 50 {
		q, a := wrote(i)
		at := len(w.Net)
		w = impl.Play(w, []impl.Event{askOf(i, 9, q), tickEvent, doubleAt(at), doubleAt(at), deliverAt(at), deliverAt(at + 2), deliverAt(0), deliverAt(0), deliverAt(0)})
		holds(t, "again and again", w, allHold)
		if len(w.Replies) != i+1 || !equalResp(w.Replies[i].Resp, a) {
			t.Fatalf("%v are the replies", w.Replies)
		}
	}
	if len(w.Served) < 100 || len(w.Net) < 20 {
		t.Errorf("%d served, %d on their way", len(w.Served), len(w.Net))
	}
}

// spoiledWorld changes something of a world: what, where and how three numbers tell.
func spoiledWorld(w *impl.World, what int, x int, y int) {
	open := w.F.Open.List
	if len(w.Replies) > 0 {
		r, other := &w.Replies[x%len(w.Replies)], w.Replies[y%len(w.Replies)]
		switch what % 16 {
		case 0:
			r.Tag = other.Tag
		case 1:
			r.Tag = y
		case 2:
			r.Resp = other.Resp
		case 3:
			r.Req = other.Req
		case 4:
			r.Parts, r.Told = other.Parts, other.Told
		case 5:
			r.Told = r.Told[:min(len(r.Told), y%4)]
		case 6:
			w.Replies = slices.Delete(w.Replies, y%len(w.Replies), y%len(w.Replies)+1)
		case 7:
			r.Resp = impl.FaultOf(r.Req, y)
		}
	}
	if len(open) > 0 {
		p, other := &open[x%len(open)], open[y%len(open)]
		switch what % 16 {
		case 8:
			p.Tag = other.Tag
		case 9:
			p.Tag = y
		case 10:
			p.Has[y%len(p.Has)] = !p.Has[y%len(p.Has)]
		case 11:
			p.Told[x%len(p.Told)] = other.Told[y%len(other.Told)]
		}
	}
	if len(w.Served) > 0 {
		s, other := &w.Served[x%len(w.Served)], w.Served[y%len(w.Served)]
		switch what % 16 {
		case 12:
			s.Port, s.Unit = other.Port, other.Unit
		case 13:
			s.Req = other.Req
		case 14:
			s.Resp = other.Resp
		case 15:
			w.Served = slices.Delete(w.Served, y%len(w.Served), y%len(w.Served)+1)
		}
	}
}

// asWorded wants of the chapter's functions what its words tell, whatever that is, which it hands out.
func asWorded(t *testing.T, what string, w impl.World) verdict {
	t.Helper()
	want := slowVerdict(w)
	holds(t, what, w, want)
	return want
}

func TestSpoiledWorldsAsWorded(t *testing.T) {
	met := map[verdict]int{}
	for seed := range 80 {
		w := impl.Play(deskWorld(t, seed), eventsOf(sampleBytes(uint32(seed+1900), 400)))
		b := sampleBytes(uint32(seed+2000), 240)
		for i := 0; i < len(b); i += 3 {
			own := deepWorld(w)
			spoiledWorld(&own, int(b[i]), int(b[i+1]), int(b[i+2]))
			met[asWorded(t, "spoiled once", own)]++
			spoiledWorld(&own, int(b[i+1]), int(b[i+2]), int(b[i]))
			met[asWorded(t, "spoiled twice", own)]++
		}
	}
	for _, v := range []verdict{allHold, notOnce, notRight, unserved, {true, false, false, true}, {true, true, false, false}} {
		if met[v] < 10 {
			t.Errorf("%v was met %d times", v, met[v])
		}
	}
}

func FuzzSafe(f *testing.F) {
	for _, b := range sampleLists() {
		f.Add(b[:min(len(b), 200)], uint16(len(b)))
	}
	f.Fuzz(func(t *testing.T, b []byte, spoil uint16) {
		w := staysSafe(t, deskWorld(t, len(b)), eventsOf(b[:min(len(b), 200)]))
		for i := range min(len(b), 8) {
			own := deepWorld(w)
			spoiledWorld(&own, int(spoil)+i, int(b[i]), int(spoil)/16)
			asWorded(t, "spoiled", own)
		}
	})
}

// What the functions of chapter 16 are handed, and what they answer.
type (
	safeArgs   struct{ World impl.World }
	safeAnswer struct {
		Ok     bool
		Number int
	}
)

// safeAsks are the functions of chapter 16 by their names.
var safeAsks = map[string]func(safeArgs) safeAnswer{
	"OnceEach":   func(a safeArgs) safeAnswer { return safeAnswer{Ok: impl.OnceEach(a.World)} },
	"RightEach":  func(a safeArgs) safeAnswer { return safeAnswer{Ok: impl.RightEach(a.World)} },
	"ServedEach": func(a safeArgs) safeAnswer { return safeAnswer{Ok: impl.ServedEach(a.World)} },
	"Safe":       func(a safeArgs) safeAnswer { return safeAnswer{Number: impl.Safe(a.World)} },
}

// safeWorlds gives worlds in which all holds, and such in which each of the four does not.
func safeWorlds(t *testing.T) []impl.World {
	w := toldWorld(t)
	list := append(memoryWorlds(t), w)
	for _, ways := range breakers(w) {
		for _, edit := range ways {
			own := deepWorld(w)
			edit(&own)
			list = append(list, own)
		}
	}
	for seed := range 10 {
		list = append(list, impl.Play(deskWorld(t, seed), eventsOf(sampleBytes(uint32(seed+2100), 300))))
	}
	return list
}

// Nothing is written into a world that is looked at, nor into the room behind its lists, and that room is not read. Each
// is looked at once, too: what turns lists about would turn them back the second time.
func TestSafeLeavesItsArguments(t *testing.T) {
	for _, w := range safeWorlds(t) {
		for what, ask := range safeAsks {
			sharesNothing(t, what, safeArgs{w}, ask)
			once, was := roomyOf(reflect.ValueOf(w)), roomyOf(reflect.ValueOf(w))
			ask(safeArgs{once.Interface().(impl.World)})
			if !sameWithRoom(once, was) {
				t.Errorf("%s: %v became %v", what, was, once)
			}
		}
	}
}

// What is told of one world does not hang on those that were looked at before.
func TestSafeKeepsNothing(t *testing.T) {
	all := safeWorlds(t)
	answers := func() (out []string) {
		for _, w := range all {
			out = append(out, fmt.Sprint(impl.OnceEach(w), impl.RightEach(w), impl.ServedEach(w), impl.Safe(w)))
		}
		return out
	}
	first := answers()
	slices.Reverse(all)
	again := answers()
	slices.Reverse(again)
	if !slices.Equal(first, again) {
		t.Fatalf("asked in another order, %v is answered, not %v", again, first)
	}
	for i, w := range all {
		if twice := fmt.Sprint(impl.OnceEach(w), impl.OnceEach(w)); twice != fmt.Sprint(slowOnce(w), slowOnce(w)) {
			t.Errorf("asked twice of the world %d, OnceEach is %s", i, twice)
		}
	}
}
