package tests

import (
	"fmt"
	"math"
	"reflect"
	"slices"
	"strings"
	"testing"

	"loop.example/g00129/impl"
)

// slowSummary is Summary as chapter 19 words it.
func slowSummary(f impl.Fabric) string {
	text := fmt.Sprintf("asked %d\nreplied %d\nfaults %d\nsent %d\nopen %d\n", f.Asked, f.Replied, f.Faults, f.Sent, len(f.Open.List))
	for port, l := range f.Lines {
		busy := map[bool]int{true: 1}[l.Busy]
		if busy+len(l.Queue) > 0 {
			text += fmt.Sprintf("port %d busy %d waiting %d\n", port, busy, len(l.Queue))
		}
	}
	return text
}

// slowFaults is FaultCounts as chapter 19 words it.
func slowFaults(w impl.World) []int {
	list := []int{0, 0, 0, 0, 0, 0, 0, 0, 0, 0, 0}
	for fault := 1; fault <= 11; fault++ {
		for _, r := range w.Replies {
			if r.Resp.Fault == fault {
				list[fault-1]++
			}
		}
	}
	return list
}

// slowServedTo is how many of Served were to this post.
func slowServedTo(w impl.World, p impl.Post) (n int) {
	for _, s := range w.Served {
		if s.Port == p.Port && s.Unit == p.Unit {
			n++
		}
	}
	return n
}

// slowBusiest is Busiest as chapter 19 words it.
func slowBusiest(w impl.World) int {
	return slices.IndexFunc(w.Posts, func(p impl.Post) bool {
		n := slowServedTo(w, p)
		return !slices.ContainsFunc(w.Posts, func(other impl.Post) bool { return slowServedTo(w, other) > n })
	})
}

// sums wants of Summary this text; the chapter's words must tell the same.
func sums(t *testing.T, what string, f impl.Fabric, want string) {
	t.Helper()
	if slow := slowSummary(f); slow != want {
		t.Fatalf("%s: as worded, Summary is %q, not %q", what, slow, want)
	}
	if got := impl.Summary(f); got != want {
		t.Errorf("%s: Summary of %v is %q, not %q", what, f, got, want)
	}
}

// hasFaults wants of FaultCounts these 11 numbers; the chapter's words must tell the same.
func hasFaults(t *testing.T, what string, w impl.World, want []int) {
	t.Helper()
	if slow := slowFaults(w); !slices.Equal(slow, want) {
		t.Fatalf("%s: as worded, FaultCounts is %v, not %v", what, slow, want)
	}
	if got := impl.FaultCounts(w); !slices.Equal(got, want) {
		t.Errorf("%s: FaultCounts is %v, not %v", what, got, want)
	}
}

// busiestIs wants of Busiest this place; the chapter's words must tell the same.
func busiestIs(t *testing.T, what string, w impl.World, want int) {
	t.Helper()
	if slow := slowBusiest(w); slow != want {
		t.Fatalf("%s: as worded, Busiest is %d, not %d", what, slow, want)
	}
	if got := impl.Busiest(w); got != want {
		t.Errorf("%s: Busiest of %v and %v is %d, not %d", what, w.Posts, w.Served, got, want)
	}
}

// counted wants of all three what the chapter's words tell.
func counted(t *testing.T, what string, w impl.World) {
	t.Helper()
	sums(t, what, w.F, slowSummary(w.F))
	hasFaults(t, what, w, slowFaults(w))
	busiestIs(t, what, w, slowBusiest(w))
}

const nothingCounted = "asked 0\nreplied 0\nfaults 0\nsent 0\nopen 0\n"

func TestSummaryOfNothing(t *testing.T) {
	sums(t, "the zero fabric", impl.Fabric{}, nothingCounted)
	sums(t, "empty lists", impl.Fabric{Open: impl.Table{List: []impl.Pend{}}, Lines: []impl.Line{}}, nothingCounted)
	for _, c := range rightConfigs() {
		sums(t, "a new fabric", impl.FabricNew(c), nothingCounted)
	}
	sums(t, "of settings that are not right", impl.FabricNew(impl.Config{Wait: 101}), nothingCounted)
	ticked, _, _ := impl.FabricTick(impl.FabricNew(impl.Config{Wait: 1}))
	sums(t, "a tick later", ticked, nothingCounted)
	later := impl.FabricNew(impl.Config{Wait: 100, Tries: 5, Rules: rulesFrom(24)})
	later.Now, later.Open.Next, later.Lines[2].Next = 77, 12, 9
	sums(t, "what is no count", later, nothingCounted)
}

// Each of the four counts and what is open stands in a line of its own, at whatever number.
func TestSummaryOfEachCount(t *testing.T) {
	numbers := slices.Concat([]int{-1, 0, 1, 9, 10, 11, 99, 100, 101, mostCount - 1, mostCount, mostCount + 1, -mostCount, math.MaxInt32, math.MinInt32}, farNumbers)
	for _, n := range numbers {
		for i, name := range []string{"asked", "replied", "faults", "sent"} {
			f := impl.FabricNew(impl.Config{Wait: 1})
			*[]*int{&f.Asked, &f.Replied, &f.Faults, &f.Sent}[i] = n
			sums(t, name, f, strings.Replace(nothingCounted, name+" 0", fmt.Sprint(name, " ", n), 1))
		}
	}
	f := impl.Fabric{Asked: math.MinInt, Replied: math.MaxInt, Faults: mostCount, Sent: -1}
	sums(t, "all at once", f, "asked -9223372036854775808\nreplied 9223372036854775807\nfaults 1000000000\nsent -1\nopen 0\n")
}

func TestSummaryOfWhatIsOpen(t *testing.T) {
	for n := range 17 {
		f := impl.Fabric{Open: tableOf(3, n), Asked: 1, Replied: 2, Faults: 3, Sent: 4}
		sums(t, "open", f, fmt.Sprintf("asked 1\nreplied 2\nfaults 3\nsent 4\nopen %d\n", n))
		f.Open.List = f.Open.List[:n/2]
		sums(t, "some behind the length", f, fmt.Sprintf("asked 1\nreplied 2\nfaults 3\nsent 4\nopen %d\n", n/2))
	}
	many := impl.Fabric{Open: impl.Table{List: make([]impl.Pend, 70000)}}
	sums(t, "far more than fit", many, strings.Replace(nothingCounted, "open 0", "open 70000", 1))
}

// portLines is what Summary says of the lines.
func portLines(f impl.Fabric) string {
	lines := strings.SplitAfter(impl.Summary(f), "\n")
	return strings.Join(lines[min(5, len(lines)):], "")
}

// tellsPorts wants of a right fabric these lines behind the counts.
func tellsPorts(t *testing.T, f impl.Fabric, want string) {
	t.Helper()
	fabricIs(t, "a sample", f, true)
	sums(t, "a sample", f, slowSummary(f))
	if got := portLines(f); got != want {
		t.Errorf("of the lines is told %q, not %q", got, want)
	}
}

func TestSummaryOfLines(t *testing.T) {
	for _, k := range []struct {
		f    impl.Fabric
		want string
	}{
		{waitingAt(0), ""},
		{waitingAt(1, 0), "port 0 busy 1 waiting 0\n"},
		{waitingAt(0, 1), "port 0 busy 0 waiting 1\n"},
		{waitingAt(0, 0, 0, 0, 0, 0, 1), "port 5 busy 0 waiting 1\n"},
		{waitingAt(32, 0, 0, 0, 0, 0, 0), "port 5 busy 1 waiting 0\n"},
		{waitingAt(4, 0, 0, 3), "port 2 busy 1 waiting 3\n"},
		{waitingAt(8, 0, 0, 2, 10), "port 2 busy 0 waiting 2\nport 3 busy 1 waiting 10\n"},
		{waitingAt(9, 0, 0, 0, 40, 40), "port 0 busy 1 waiting 0\nport 3 busy 1 waiting 40\nport 4 busy 0 waiting 40\n"},
		{waitingAt(42, 1, 0, 0, 2, 0, 9), "port 0 busy 0 waiting 1\nport 1 busy 1 waiting 0\nport 3 busy 1 waiting 2\nport 5 busy 1 waiting 9\n"},
		{waitingAt(63, 0, 0, 0, 0, 0, 0), "port 0 busy 1 waiting 0\nport 1 busy 1 waiting 0\nport 2 busy 1 waiting 0\nport 3 busy 1 waiting 0\nport 4 busy 1 waiting 0\nport 5 busy 1 waiting 0\n"},
		{waitingAt(0, 1, 2, 3, 4, 5, 6), "port 0 busy 0 waiting 1\nport 1 busy 0 waiting 2\nport 2 busy 0 waiting 3\nport 3 busy 0 waiting 4\nport 4 busy 0 waiting 5\nport 5 busy 0 waiting 6\n"},
		{waitingAt(21, 20, 11, 12, 13, 14, 15), "port 0 busy 1 waiting 20\nport 1 busy 0 waiting 11\nport 2 busy 1 waiting 12\nport 3 busy 0 waiting 13\nport 4 busy 1 waiting 14\nport 5 busy 0 waiting 15\n"},
	} {
		tellsPorts(t, k.f, k.want)
	}
}

// Whichever lines have calls, and whichever of these are asked.
func TestSummaryOfAnyLines(t *testing.T) {
	for asked := range 64 {
		for waits := range 64 {
			waiting, want := make([]int, 6), ""
			for port := range waiting {
				waiting[port] = waits >> port & 1 * (1 + port + asked%3)
				if busy := asked >> port & 1; busy+waiting[port] > 0 {
					want += fmt.Sprintln("port", port, "busy", busy, "waiting", waiting[port])
				}
			}
			if got := portLines(waitingAt(asked, waiting...)); got != want {
				t.Fatalf("asked at %b, waiting %v: %q, not %q", asked, waiting, got, want)
			}
		}
	}
}

// What is not right is looked at as it stands there: lines too few or too many, calls that are none, more than fit.
func TestSummaryOfWhatIsNotRight(t *testing.T) {
	with := func(lines ...impl.Line) impl.Fabric { return impl.Fabric{Lines: lines} }
	var none impl.Line
	for _, k := range []struct {
		what string
		f    impl.Fabric
		want string
	}{
		{"one line", with(impl.Line{Busy: true}), "port 0 busy 1 waiting 0\n"},
		{"a call that is none", with(none, impl.Line{Queue: make([]impl.Call, 1)}), "port 1 busy 0 waiting 1\n"},
		{"as many as fit, and one more", with(impl.Line{Queue: make([]impl.Call, 41)}), "port 0 busy 0 waiting 41\n"},
		{"far more than fit", with(impl.Line{Busy: true, Queue: make([]impl.Call, 70000)}), "port 0 busy 1 waiting 70000\n"},
		{"seven lines", with(none, none, none, none, none, none, impl.Line{Busy: true}), "port 6 busy 1 waiting 0\n"},
		{"twelve lines", with(append(slices.Repeat([]impl.Line{none}, 11), impl.Line{Queue: make([]impl.Call, 2)})...), "port 11 busy 0 waiting 2\n"},
		{"not Busy, though there is a call", with(impl.Line{Call: callOf(3), Left: 2, Number: 4, Due: 5}), ""},
		{"wrong in all else", with(impl.Line{Number: -1, Due: -1, Left: -1, Next: -1, Wait: -1, Tries: -1}), ""},
		{"calls behind the length", with(impl.Line{Queue: make([]impl.Call, 3)[:0]}), ""},
	} {
		fabricIs(t, k.what, k.f, false)
		sums(t, k.what, k.f, nothingCounted+k.want)
	}
	for _, e := range slices.Concat(fieldEdits(), wholeEdits(), partEdits(), countEdits()) {
		f := plainFabric()
		e.edit(&f)
		sums(t, e.what, f, slowSummary(f))
	}
}

func TestSummaryOfSamples(t *testing.T) {
	for _, f := range append(sampleFabrics(), memoryFabrics()...) {
		sums(t, "a sample", f, slowSummary(f))
	}
}

// A fabric is watched from without: Summary says what was asked, replied and sent by then, and what lines have.
func TestSummaryOfAFabricThatGoesOn(t *testing.T) {
	q, a := wrote(77)
	f := ruled(ruleOf(2, 0, 9, 3, 50, 0), ruleOf(2, 10, 19, 1, 60, -10))
	step := func(what string, next impl.Fabric, want string) {
		t.Helper()
		f = next
		sums(t, what, f, want)
	}
	next, _ := impl.FabricAsk(f, 0, 0, 9, q)
	step("asked", next, "asked 1\nreplied 0\nfaults 0\nsent 0\nopen 1\nport 3 busy 0 waiting 1\n")
	next, _ = impl.FabricAsk(f, 0, 1, 8, q)
	step("without a path", next, "asked 2\nreplied 1\nfaults 1\nsent 0\nopen 1\nport 3 busy 0 waiting 1\n")
	next, _ = impl.FabricAsk(f, 0, 2, 9, askAt(3, 9, 2))
	step("at two lines", next, "asked 3\nreplied 1\nfaults 1\nsent 0\nopen 2\nport 1 busy 0 waiting 1\nport 3 busy 0 waiting 2\n")
	next, _, _ = impl.FabricTick(f)
	step("a tick", next, "asked 3\nreplied 1\nfaults 1\nsent 2\nopen 2\nport 1 busy 1 waiting 0\nport 3 busy 1 waiting 1\n")
	next, _ = impl.FabricHear(f, 3, 0, 50, a)
	step("an answer", next, "asked 3\nreplied 2\nfaults 1\nsent 2\nopen 1\nport 1 busy 1 waiting 0\nport 3 busy 0 waiting 1\n")
	next, _ = impl.FabricHear(f, 1, 0, 60, impl.Resp{Kind: 3, Fault: 2})
	step("a part", next, "asked 3\nreplied 2\nfaults 1\nsent 2\nopen 1\nport 3 busy 0 waiting 1\n")
	next, _, _ = impl.FabricTick(f)
	step("the next tick", next, "asked 3\nreplied 2\nfaults 1\nsent 3\nopen 1\nport 3 busy 1 waiting 0\n")
	next, _ = impl.FabricHear(f, 3, 1, 50, impl.Resp{Kind: 3, Words: []int{9}})
	step("all told", next, "asked 3\nreplied 3\nfaults 2\nsent 3\nopen 0\n")
}

// repliesOf gives replies with these faults; they are of Kind 3.
func repliesOf(faults ...int) (list []impl.Reply) {
	for i, fault := range faults {
		r := impl.Reply{Tag: i, Req: askAt(3, 1, 1), Resp: impl.Resp{Kind: 3, Fault: fault}}
		if fault == 0 {
			r.Resp.Words = []int{11}
		}
		list = append(list, r)
	}
	return list
}

func noneOfEach() []int { return make([]int, 11) }

func TestFaultCountsOfNone(t *testing.T) {
	hasFaults(t, "the zero world", impl.World{}, noneOfEach())
	hasFaults(t, "no reply", impl.World{Replies: []impl.Reply{}}, noneOfEach())
	hasFaults(t, "without a fault", impl.World{Replies: repliesOf(0, 0, 0)}, noneOfEach())
	hasFaults(t, "zero replies", impl.World{Replies: make([]impl.Reply, 5)}, noneOfEach())
	hasFaults(t, "behind the length", impl.World{Replies: repliesOf(1, 2, 3)[:0]}, noneOfEach())
	for _, c := range rightConfigs() {
		w, _ := impl.WorldNew(c, nil)
		hasFaults(t, "a new world", w, noneOfEach())
	}
}

func TestFaultCountsOfEachFault(t *testing.T) {
	for fault := 1; fault <= 11; fault++ {
		for n := 1; n <= 4; n++ {
			want := noneOfEach()
			want[fault-1] = n
			hasFaults(t, "one fault", impl.World{Replies: repliesOf(slices.Repeat([]int{fault}, n)...)}, want)
			hasFaults(t, "with replies without one", impl.World{Replies: repliesOf(slices.Repeat([]int{0, fault, 0, 12}, n)...)}, want)
		}
		for other := 1; other <= 11; other++ {
			want := noneOfEach()
			want[fault-1] += 2
			want[other-1]++
			hasFaults(t, "two faults", impl.World{Replies: repliesOf(fault, other, fault)}, want)
		}
	}
	hasFaults(t, "each", impl.World{Replies: repliesOf(1, 2, 3, 4, 5, 6, 7, 8, 9, 10, 11)}, slices.Repeat([]int{1}, 11))
	var list []int
	for fault := -3; fault < 20; fault++ {
		list = append(list, slices.Repeat([]int{fault}, max(fault, 2))...)
	}
	hasFaults(t, "so many as it is", impl.World{Replies: repliesOf(list...)}, []int{2, 2, 3, 4, 5, 6, 7, 8, 9, 10, 11})
}

func TestFaultCountsOfOtherFaults(t *testing.T) {
	numbers := slices.Concat([]int{-12, -11, -10, -2, -1, 0, 12, 13, 22, 127, 128, 129, 139, 254, 255, 256 + 11, 1<<16 + 1, 1<<32 + 11, -1<<32 + 1}, farNumbers)
	for _, fault := range numbers {
		hasFaults(t, "another fault", impl.World{Replies: repliesOf(fault)}, noneOfEach())
		hasFaults(t, "between the ends", impl.World{Replies: repliesOf(1, fault, 11, fault)}, []int{1, 0, 0, 0, 0, 0, 0, 0, 0, 0, 1})
	}
	hasFaults(t, "all of them", impl.World{Replies: repliesOf(numbers...)}, noneOfEach())
}

// Only what a reply says counts: not what its parts, what is open, or masters of devices were told, and no count of F.
func TestFaultCountsOfRepliesAlone(t *testing.T) {
	fault := impl.Resp{Kind: 3, Fault: 2}
	w := plainWorld()
	w.Replies = repliesOf(0, 11, 0)
	w.Replies[0].Told = []impl.Resp{fault, fault}
	w.Replies[1].Told = []impl.Resp{fault}
	w.F.Open.List[0].Told[0] = fault
	w.Served = []impl.Served{{Resp: fault}, {Resp: fault}}
	w.Net = append(w.Net, packetBack(0, 1, 20, fault))
	w.F.Faults = 40
	want := []int{0, 0, 0, 0, 0, 0, 0, 0, 0, 0, 1}
	hasFaults(t, "one of three", w, want)
	w.F, w.Posts, w.Net, w.Served = impl.Fabric{}, nil, nil, nil
	hasFaults(t, "the replies alone", w, want)
	w.Replies[1].Resp = impl.Resp{Fault: 11, Words: []int{-1}, At: -3}
	hasFaults(t, "what is no right answer", w, want)
}

func TestFaultCountsOfMany(t *testing.T) {
	for _, n := range []int{4999, 5000, 5001, 70000} {
		w := impl.World{Replies: slices.Repeat(repliesOf(0, 4, 10, 200), n/4)}
		hasFaults(t, "many", w, []int{0, 0, 0, n / 4, 0, 0, 0, 0, 0, n / 4, 0})
	}
}

// postsAt and servedTo give posts, and what was served, at these Ports and Units.
func postsAt(list ...[2]int) (posts []impl.Post) {
	for _, at := range list {
		posts = append(posts, impl.Post{Port: at[0], Unit: at[1], D: impl.DeviceNew(2)})
	}
	return posts
}

func servedTo(list ...[2]int) (served []impl.Served) {
	for i, at := range list {
		served = append(served, impl.Served{Port: at[0], Number: i, Unit: at[1], Req: askAt(3, 0, 1), Resp: impl.Resp{Kind: 3, Words: []int{i}}})
	}
	return served
}

func TestBusiestOfNoPosts(t *testing.T) {
	busiestIs(t, "the zero world", impl.World{}, -1)
	busiestIs(t, "an empty list", impl.World{Posts: []impl.Post{}, Served: []impl.Served{}}, -1)
	busiestIs(t, "posts behind the length", impl.World{Posts: make([]impl.Post, 3)[:0]}, -1)
	busiestIs(t, "served, but by no post", impl.World{Served: servedTo([2]int{0, 0}, [2]int{3, 5})}, -1)
	w, _ := impl.WorldNew(impl.Config{Wait: 1}, nil)
	busiestIs(t, "a new world", w, -1)
	gone := toldWorld(t)
	gone.Posts = nil
	busiestIs(t, "much was told", gone, -1)
}

func TestBusiestOfNothingServed(t *testing.T) {
	for i, list := range rightPosts() {
		w, _ := impl.WorldNew(impl.Config{Wait: 1}, list)
		busiestIs(t, fmt.Sprint("the posts ", i), w, min(0, len(list)-1))
	}
	w := plainWorld()
	w.Served = nil
	busiestIs(t, "four posts", w, 0)
	w.Served = servedTo([2]int{3, 21}, [2]int{0, 21}, [2]int{1, 20}, [2]int{-1, 20}, [2]int{0, 0})
	busiestIs(t, "served by whom no post is", w, 0)
	w.Served = []impl.Served{{Port: 1, Unit: 21}}
	busiestIs(t, "an answer to no question", w, 1)
}

// served gives what was served by posts, so many by each.
func served(posts []impl.Post, counts ...int) (list []impl.Served) {
	for i, n := range counts {
		for range n {
			list = append(list, servedTo([2]int{posts[i].Port, posts[i].Unit})...)
		}
	}
	return list
}

// eightPosts are posts of one Port and several Units, and of one Unit and several Ports.
func eightPosts() []impl.Post {
	return postsAt([2]int{0, 5}, [2]int{0, 6}, [2]int{0, 247}, [2]int{1, 5}, [2]int{5, 5}, [2]int{5, 6}, [2]int{2, 1}, [2]int{1, 2})
}

func TestBusiestOfOnePost(t *testing.T) {
	posts := postsAt([2]int{3, 6})
	for n := range 5 {
		busiestIs(t, "one post", impl.World{Posts: posts, Served: served(posts, n)}, 0)
	}
	busiestIs(t, "others served more", impl.World{Posts: posts, Served: servedTo([2]int{3, 6}, [2]int{3, 5}, [2]int{3, 5}, [2]int{6, 3}, [2]int{6, 3})}, 0)
}

func TestBusiestOfSeveralPosts(t *testing.T) {
	posts := eightPosts()
	for _, k := range []struct {
		what   string
		counts []int
		want   int
	}{
		{"the first", []int{3, 2, 1, 2, 0, 0, 2, 2}, 0},
		{"the last", []int{3, 2, 1, 2, 0, 0, 2, 4}, 7},
		{"one between", []int{3, 2, 1, 2, 9, 0, 2, 4}, 4},
		{"the first and a later one", []int{3, 2, 1, 3}, 0},
		{"the first and the last", []int{1, 0, 0, 0, 0, 0, 0, 1}, 0},
		{"two later ones", []int{0, 0, 2, 1, 2}, 2},
		{"two neighbours", []int{1, 4, 4, 3}, 1},
		{"three later ones", []int{1, 0, 0, 5, 4, 5, 5}, 3},
		{"all alike", []int{2, 2, 2, 2, 2, 2, 2, 2}, 0},
		{"all but the first", []int{1, 2, 2, 2, 2, 2, 2, 2}, 1},
		{"ascending", []int{0, 1, 2, 3, 4, 5, 6, 7}, 7},
		{"descending", []int{7, 6, 5, 4, 3, 2, 1, 0}, 0},
		{"none", []int{0, 0, 0, 0, 0, 0, 0, 0}, 0},
		{"the same sum at each Port", []int{1, 1, 1, 2, 0, 3, 0, 1}, 5},
		{"the same sum of each Unit", []int{2, 0, 0, 1, 1, 4, 4}, 5},
	} {
		w := impl.World{Posts: posts, Served: served(posts, k.counts...)}
		busiestIs(t, k.what, w, k.want)
		slices.Reverse(w.Served)
		busiestIs(t, k.what+", served the other way round", w, k.want)
		w.Served = append(w.Served, slices.Repeat(servedTo([2]int{5, 1}, [2]int{6, 5}, [2]int{2, 2}), 20)...)
		busiestIs(t, k.what+", others served more", w, k.want)
	}
}

// Each row of few counts, and the posts in each of some orders.
func TestBusiestOfAnyCounts(t *testing.T) {
	posts := eightPosts()[:5]
	for n := range 243 {
		counts := []int{n % 3, n / 3 % 3, n / 9 % 3, n / 27 % 3, n / 81}
		busiestIs(t, "few", impl.World{Posts: posts, Served: served(posts, counts...)}, slices.Index(counts, slices.Max(counts)))
	}
	for i := range posts {
		turned := slices.Concat(posts[i:], posts[:i])
		w := impl.World{Posts: turned, Served: served(posts, 1, 2, 5, 2, 5)}
		busiestIs(t, "turned", w, min((7-i)%5, (9-i)%5))
	}
}

// Of the two at one Port and Unit, which only a world that is not right has, the first one counts.
func TestBusiestOfTwoAtOnePlace(t *testing.T) {
	posts := postsAt([2]int{0, 9}, [2]int{1, 5}, [2]int{1, 5}, [2]int{0, 9})
	for _, k := range []struct{ counts, want int }{{0, 0}, {1, 1}, {4, 1}} {
		w := impl.World{Posts: posts, Served: served(posts[1:2], k.counts)}
		worldIs(t, "two at one place", w, false)
		busiestIs(t, "two at one place", w, k.want)
	}
	busiestIs(t, "both pairs alike", impl.World{Posts: posts, Served: served(posts, 1, 1)}, 0)
	busiestIs(t, "the outer pair", impl.World{Posts: posts, Served: served(posts, 2, 1)}, 0)
}

// Places that no right post has are compared like the others.
func TestBusiestOfOtherPlaces(t *testing.T) {
	numbers := append([]int{-1, 0, 5, 6, 247, 248}, farNumbers...)
	for _, n := range numbers {
		for _, at := range [][2]int{{n, 1}, {0, n}, {n, n}} {
			w := impl.World{Posts: postsAt([2]int{3, 3}, at), Served: servedTo([2]int{3, 3}, at, at)}
			busiestIs(t, "another place", w, 1)
			w.Served = servedTo([2]int{at[0] + 1<<32, at[1]}, [2]int{at[0], at[1] + 1<<32}, [2]int{at[1] + 1<<16, at[0]})
			busiestIs(t, "none of them", w, slowBusiest(w))
		}
	}
	w := impl.World{Posts: postsAt([2]int{1, 23}, [2]int{12, 3}), Served: servedTo([2]int{12, 3})}
	busiestIs(t, "the same digits", w, 1)
}

func TestBusiestOfMany(t *testing.T) {
	posts := eightPosts()
	for _, n := range []int{4999, 5000, 5001, 70000} {
		busiestIs(t, "many", impl.World{Posts: posts, Served: served(posts, n-2, 0, n-1, 0, n)}, 4)
		busiestIs(t, "many alike", impl.World{Posts: posts, Served: served(posts, n-1, n, 0, n)}, 1)
	}
	far := impl.World{Posts: slices.Repeat(posts, 9000), Served: served(posts, 500, 501, 501)}
	if got := impl.Busiest(far); got != 1 {
		t.Errorf("of 72000 posts %d is the busiest", got)
	}
}

// numbersIn are those of a Summary by their names; of each port its two.
func numbersIn(t *testing.T, text string) map[string]int {
	t.Helper()
	found := map[string]int{}
	for line := range strings.Lines(text) {
		var port, busy, waiting, n int
		var name string
		if got, _ := fmt.Sscanf(line, "port %d busy %d waiting %d\n", &port, &busy, &waiting); got == 3 {
			found["busy"] += busy
			found["waiting"] += waiting
			found["ports"]++
		} else if got, _ := fmt.Sscanf(line, "%s %d\n", &name, &n); got == 2 {
			found[name] = n
		} else {
			t.Fatalf("Summary says %q", line)
		}
	}
	return found
}

// countsReplied wants of a world that WorldNew made that what is counted is what was replied: so many faults, so many
// asked, replied and open, and a busiest post that no other had more of.
func countsReplied(t *testing.T, what string, w impl.World, asked int, sent int) {
	t.Helper()
	counted(t, what, w)
	faults, added := 0, 0
	for _, r := range w.Replies {
		if r.Resp.Fault != 0 {
			faults++
		}
	}
	for _, n := range impl.FaultCounts(w) {
		added += n
	}
	if added != faults {
		t.Fatalf("%s: FaultCounts add up to %d, %d replies have one", what, added, faults)
	}
	found := numbersIn(t, impl.Summary(w.F))
	want := map[string]int{"asked": asked, "replied": len(w.Replies), "faults": faults, "sent": sent, "open": asked - len(w.Replies)}
	for name, n := range want {
		if found[name] != n {
			t.Fatalf("%s: %s is %d, not %d, in %q", what, name, found[name], n, impl.Summary(w.F))
		}
	}
	if n := found["busy"] + found["waiting"]; n != impl.Load(w.F) || found["ports"] > n {
		t.Fatalf("%s: of %d calls %q", what, impl.Load(w.F), impl.Summary(w.F))
	}
	busiestOfAll(t, what, w)
}

// busiestOfAll wants that none of the others had more of Served, and none ahead of it as many.
func busiestOfAll(t *testing.T, what string, w impl.World) {
	t.Helper()
	at := impl.Busiest(w)
	if len(w.Posts) == 0 {
		if at != -1 {
			t.Errorf("%s: without posts %d is the busiest", what, at)
		}
		return
	}
	if at < 0 || at >= len(w.Posts) {
		t.Fatalf("%s: the busiest is %d, of %d posts", what, at, len(w.Posts))
	}
	most := slowServedTo(w, w.Posts[at])
	for i, p := range w.Posts {
		if n := slowServedTo(w, p); n > most || n == most && i < at {
			t.Errorf("%s: %d served %d, and the busiest, %d, %d", what, i, n, at, most)
		}
	}
}

// watched does a row of events one by one, and wants behind each that counts are what was asked, sent and replied.
func watched(t *testing.T, what string, w impl.World, list []impl.Event) impl.World {
	t.Helper()
	asked, sent := 0, 0
	for i, e := range list {
		_, sends, _ := impl.FabricTick(w.F)
		next, did := impl.Do(w, e)
		if did && e.Kind == impl.EvAsk {
			asked++
		}
		if did && e.Kind == impl.EvTick {
			sent += len(sends)
		}
		w = next
		countsReplied(t, fmt.Sprint(what, ", the ", i, "th event"), w, asked, sent)
	}
	return w
}

func TestWhatIsCountedIsWhatWasReplied(t *testing.T) {
	faults, busiest, lines := noneOfEach(), map[int]int{}, map[string]int{}
	for seed := range 60 {
		w := watched(t, fmt.Sprint("row ", seed), playWorld(t, seed), eventsOf(sampleBytes(uint32(seed+3900), 450)))
		for i, n := range impl.FaultCounts(w) {
			faults[i] += n
		}
		busiest[impl.Busiest(w)]++
		lines[fmt.Sprint(strings.Count(impl.Summary(w.F), "busy 1"), strings.Count(impl.Summary(w.F), "waiting 0"))]++
		w = impl.Settle(w, impl.Enough(w))
		countsReplied(t, "settled", w, w.F.Asked, w.F.Sent)
		if n := strings.Count(impl.Summary(w.F), "\n"); n != 5 || !strings.HasSuffix(impl.Summary(w.F), "\nopen 0\n") {
			t.Errorf("settled, it says %q", impl.Summary(w.F))
		}
	}
	if faults[1]*faults[5]*faults[9]*faults[10] == 0 || len(busiest) < 4 || len(lines) < 4 {
		t.Errorf("told were the faults %v, the busiest posts %v, the lines %v", faults, busiest, lines)
	}
}

func TestWhatIsCountedOfQuietRows(t *testing.T) {
	for seed := range 40 {
		for _, mask := range []int{0, 63, seed % 64} {
			w := quietWorld(t, seed, mask)
			countsReplied(t, "new", w, 0, 0)
			w = quietEvents(w, sampleBytes(uint32(seed+4000), 240), map[int]int{})
			for range 8 {
				countsReplied(t, "rounds", w, w.F.Asked, w.F.Sent)
				w = impl.Round(w)
			}
		}
	}
}

// Each fault that a world of WorldNew can tell is counted once more where it is told.
func TestFaultsThatAreToldAreCounted(t *testing.T) {
	rules := []impl.Rule{ruleOf(2, 0, 9, 0, 20, 0), ruleOf(2, 10, 19, 1, 21, 0), ruleOf(2, 40, 64, 0, 20, 0)}
	posts := []impl.Post{{Port: 0, Unit: 20, D: impl.DeviceNew(30)}}
	w, _ := impl.WorldNew(impl.Config{Wait: 1, Rules: rules}, posts)
	want := noneOfEach()
	for _, k := range []struct {
		fault int
		e     impl.Event
	}{
		{0, askOf(0, 9, askAt(3, 1, 2))}, {impl.FaultPath, askOf(0, 8, askAt(3, 1, 2))}, {impl.FaultAt, askOf(0, 9, askAt(3, 25, 2))},
		{impl.FaultTarget, askOf(0, 9, askAt(3, 12, 2))}, {impl.FaultAt, askOf(0, 9, askAt(3, 50, 2))}, {impl.FaultTarget, askOf(0, 9, askAt(3, 8, 4))},
		{impl.FaultPath, askOf(0, 7, askAt(6, 1, 1))}, {0, askOf(0, 9, askAt(6, 1, 1))},
	} {
		w = settled(t, w, k.e)
		if k.fault > 0 {
			want[k.fault-1]++
		}
		hasFaults(t, "told", w, want)
	}
	for range 20 {
		w = doAll(t, w, askOf(0, 9, askAt(3, 1, 1)))
	}
	want[impl.FaultBusy-1] += 4
	hasFaults(t, "too many are open", w, want)
	busiestIs(t, "one post", w, 0)
}

func FuzzCounts(f *testing.F) {
	for i, b := range sampleLists() {
		f.Add(b[:min(len(b), 200)], uint8(i), uint8(5*i))
	}
	f.Fuzz(func(t *testing.T, b []byte, n uint8, mask uint8) {
		b = b[:min(len(b), 200)]
		watched(t, "played", playWorld(t, int(n)), eventsOf(b))
		w := quietEvents(quietWorld(t, int(n), int(mask)%64), b, map[int]int{})
		countsReplied(t, "mixed", w, w.F.Asked, w.F.Sent)
		var odd impl.World
		for i, c := range b {
			odd.Replies = append(odd.Replies, repliesOf(int(c)%14-1)...)
			odd.Posts = append(odd.Posts, postsAt([2]int{int(c) % 3, i % 3})[:i%9/8]...)
			odd.Served = append(odd.Served, servedTo([2]int{int(c) % 4, int(c) / 4 % 4})...)
			odd.F.Lines = append(odd.F.Lines, impl.Line{Busy: c%3 == 0, Queue: make([]impl.Call, max(0, int(c)%8-4))})
		}
		odd.F.Asked, odd.F.Replied, odd.F.Faults, odd.F.Sent = int(n), -int(mask), len(b), int(n)*int(mask)
		counted(t, "odd", odd)
	})
}

// What the functions of chapter 19 are handed, and what they answer.
type (
	countArgs   struct{ World impl.World }
	countAnswer struct {
		Text   string
		Counts []int
		Place  int
	}
)

// countAsks are the functions of chapter 19 by their names.
var countAsks = map[string]func(countArgs) countAnswer{
	"Summary":     func(a countArgs) countAnswer { return countAnswer{Text: impl.Summary(a.World.F)} },
	"FaultCounts": func(a countArgs) countAnswer { return countAnswer{Counts: impl.FaultCounts(a.World)} },
	"Busiest":     func(a countArgs) countAnswer { return countAnswer{Place: impl.Busiest(a.World)} },
}

// countWorlds gives right and wrong worlds of every kind.
func countWorlds(t *testing.T) []impl.World {
	t.Helper()
	posts := eightPosts()
	list := append(memoryWorlds(t), roundWorlds(t)...)
	for _, k := range wrongWorlds() {
		if len(k[0].Replies) < 10 && len(k[0].Served) < 10 {
			list = append(list, k[0])
		}
	}
	for _, f := range memoryFabrics() {
		list = append(list, impl.World{F: f, Posts: posts[:3], Served: served(posts, 1, 2, 2), Replies: repliesOf(1, 0, 12, 1)})
	}
	for i := range askKinds {
		list = append(list, sharedWorld(i))
	}
	return append(list, impl.World{})
}

// Answers are new memory; nothing is written into a world, nor into the room behind its lists, and that room is not
// read. Each is asked once, too: what turns lists about would turn them back the second time.
func TestCountsAnswerNewMemory(t *testing.T) {
	for _, w := range countWorlds(t) {
		for what, ask := range countAsks {
			sharesNothing(t, what, countArgs{w}, ask)
			once, was := roomyOf(reflect.ValueOf(w)), roomyOf(reflect.ValueOf(w))
			ask(countArgs{once.Interface().(impl.World)})
			if !sameWithRoom(once, was) {
				t.Errorf("%s: %v became %v", what, was, once)
			}
		}
	}
}

// What was answered may be written over: the next answer is as it was.
func TestCountsThatAreWrittenOver(t *testing.T) {
	for _, w := range []impl.World{{}, toldWorld(t)} {
		want := slowFaults(w)
		for range 3 {
			got := impl.FaultCounts(w)
			if !slices.Equal(got, want) {
				t.Fatalf("FaultCounts is %v, not %v", got, want)
			}
			for i := range got[:cap(got)] {
				got[:cap(got)][i] = 99
			}
		}
	}
}

// What is answered hangs on the argument alone: asked again, and in another order, it is the same.
func TestCountsKeepNothing(t *testing.T) {
	all := countWorlds(t)
	answers := func() (out []string) {
		for _, w := range all {
			counted(t, "in this order", w)
			a := countArgs{w}
			out = append(out, fmt.Sprint(countAsks["Summary"](a), countAsks["FaultCounts"](a), countAsks["Busiest"](a)))
		}
		return out
	}
	first := answers()
	slices.Reverse(all)
	again := answers()
	slices.Reverse(first)
	if !slices.Equal(first, again) {
		t.Fatal("asked in another order, other things are answered")
	}
}
