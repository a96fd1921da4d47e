package tests

import (
	"fmt"
	"math"
	"slices"
	"testing"

	"loop.example/g00129/impl"
)

const (
	mostCalls = 40
	mostId    = 1000000000
)

func equalCall(a impl.Call, b impl.Call) bool {
	return a.Id == b.Id && a.Part == b.Part && a.Unit == b.Unit && equalReq(a.Req, b.Req)
}

func equalLine(a impl.Line, b impl.Line) bool {
	return slices.EqualFunc(a.Queue, b.Queue, equalCall) && a.Busy == b.Busy && equalCall(a.Call, b.Call) && a.Number == b.Number &&
		a.Due == b.Due && a.Left == b.Left && a.Next == b.Next && a.Wait == b.Wait && a.Tries == b.Tries
}

func equalOrders(a []impl.Order, b []impl.Order) bool {
	return slices.EqualFunc(a, b, func(x impl.Order, y impl.Order) bool {
		return x.Number == y.Number && x.Unit == y.Unit && equalReq(x.Req, y.Req)
	})
}

func equalDones(a []impl.Done, b []impl.Done) bool {
	return slices.EqualFunc(a, b, func(x impl.Done, y impl.Done) bool {
		return x.Id == y.Id && x.Part == y.Part && equalResp(x.Resp, y.Resp)
	})
}

func cloneReq(q impl.Req) impl.Req {
	q.Words, q.Bits = slices.Clone(q.Words), slices.Clone(q.Bits)
	return q
}

func cloneResp(a impl.Resp) impl.Resp {
	a.Words, a.Bits = slices.Clone(a.Words), slices.Clone(a.Bits)
	return a
}

func cloneLine(l impl.Line) impl.Line {
	l.Queue = slices.Clone(l.Queue)
	for i := range l.Queue {
		l.Queue[i].Req = cloneReq(l.Queue[i].Req)
	}
	l.Call.Req = cloneReq(l.Call.Req)
	return l
}

// callOf gives the i-th of calls that differ in all they have.
func callOf(i int) impl.Call {
	k := askKinds[i%len(askKinds)]
	return impl.Call{Id: 3 * i, Part: i % 8, Unit: 1 + i*7%247, Req: askAt(k.kind, 100+i, min(k.most, 1+i%9))}
}

// callsFrom gives n such calls from the i-th on.
func callsFrom(i int, n int) []impl.Call {
	var list []impl.Call
	for j := range n {
		list = append(list, callOf(i+j))
	}
	return list
}

// busyLine gives a right line that asks the first call, and in which the others wait.
func busyLine(calls ...impl.Call) impl.Line {
	return impl.Line{Queue: calls[1:], Busy: true, Call: calls[0], Number: 7, Due: 1000, Left: 1, Next: 8, Wait: 3, Tries: 2}
}

// slowCall tells whether a call is as chapter 12 tells it.
func slowCall(c impl.Call) bool {
	return c.Id >= 0 && c.Id <= 1000000000 && c.Part >= 0 && c.Part <= 7 && c.Unit >= 1 && c.Unit <= 247 && impl.ReqOk(c.Req)
}

// slowLine is LineOk as chapter 12 words it.
func slowLine(l impl.Line) bool {
	for _, c := range l.Queue {
		if !slowCall(c) {
			return false
		}
	}
	if l.Busy && !slowCall(l.Call) || !l.Busy && !equalCall(l.Call, impl.Call{}) {
		return false
	}
	if !l.Busy && (l.Number != 0 || l.Due != 0 || l.Left != 0) {
		return false
	}
	return len(l.Queue) <= 40 && slowWord(l.Number) && l.Due >= 0 && l.Due <= lastTick && l.Left >= 0 && l.Left <= l.Tries &&
		slowWord(l.Next) && l.Wait >= 1 && l.Wait <= 100 && l.Tries >= 0 && l.Tries <= 5
}

// slowPutCall is LinePut as chapter 12 words it.
func slowPutCall(l impl.Line, c impl.Call) (impl.Line, bool) {
	if !slowLine(l) || !slowCall(c) || len(l.Queue) >= 40 {
		return l, false
	}
	l.Queue = append(slices.Clone(l.Queue), c)
	return l, true
}

// slowFree is l when what it asked is done.
func slowFree(l impl.Line) impl.Line {
	return impl.Line{Queue: l.Queue, Next: l.Next, Wait: l.Wait, Tries: l.Tries}
}

// slowTick is LineTick as chapter 12 words it.
func slowTick(l impl.Line, now int) (impl.Line, []impl.Order, []impl.Done) {
	var sent []impl.Order
	var done []impl.Done
	if !slowLine(l) || now < 0 || now > lastTick {
		return l, sent, done
	}
	if l.Busy && slowGap(l.Due, now) < 1<<31 {
		if l.Left > 0 {
			l.Due, l.Left = later(now, l.Wait), l.Left-1
			sent = append(sent, impl.Order{Number: l.Number, Unit: l.Call.Unit, Req: l.Call.Req})
		} else {
			done = append(done, impl.Done{Id: l.Call.Id, Part: l.Call.Part, Resp: impl.Resp{Kind: l.Call.Req.Kind, Fault: 11}})
			l = slowFree(l)
		}
	}
	if !l.Busy && len(l.Queue) > 0 {
		c := l.Queue[0]
		sent = append(sent, impl.Order{Number: l.Next, Unit: c.Unit, Req: c.Req})
		l = impl.Line{Queue: l.Queue[1:], Busy: true, Call: c, Number: l.Next, Due: later(now, l.Wait), Left: l.Tries, Next: (l.Next + 1) % 65536, Wait: l.Wait, Tries: l.Tries}
	}
	return l, sent, done
}

// slowLineHear is LineHear as chapter 12 words it.
func slowLineHear(l impl.Line, number int, unit int, a impl.Resp) (impl.Line, []impl.Done) {
	if !slowLine(l) || !l.Busy || l.Number != number || l.Call.Unit != unit || !impl.Suits(l.Call.Req, a) {
		return l, nil
	}
	return slowFree(l), []impl.Done{{Id: l.Call.Id, Part: l.Call.Part, Resp: a}}
}

// lineIs wants that LineOk tells this; the chapter's words must tell the same.
func lineIs(t *testing.T, what string, l impl.Line, right bool) {
	t.Helper()
	if slow := slowLine(l); slow != right {
		t.Fatalf("%s: as worded, LineOk of %v is %v", what, l, slow)
	}
	if got := impl.LineOk(l); got != right {
		t.Errorf("%s: LineOk of %v is %v", what, l, got)
	}
}

// putsCall wants of LinePut this line and this.
func putsCall(t *testing.T, l impl.Line, c impl.Call, want impl.Line, ok bool) impl.Line {
	t.Helper()
	got, gotOk := impl.LinePut(l, c)
	if gotOk != ok || !equalLine(got, want) {
		t.Errorf("LinePut of %v and %v is %v, %v, not %v, %v", l, c, got, gotOk, want, ok)
	}
	return got
}

// ticksTo wants of LineTick this line, these orders and what is done.
func ticksTo(t *testing.T, l impl.Line, now int, want impl.Line, sent []impl.Order, done []impl.Done) impl.Line {
	t.Helper()
	got, gotSent, gotDone := impl.LineTick(l, now)
	if !equalLine(got, want) || !equalOrders(gotSent, sent) || !equalDones(gotDone, done) {
		t.Errorf("LineTick of %v at %d is %v, %v, %v, not %v, %v, %v", l, now, got, gotSent, gotDone, want, sent, done)
	}
	return got
}

// hearsTo wants of LineHear this line and what is done.
func hearsTo(t *testing.T, l impl.Line, number int, unit int, a impl.Resp, want impl.Line, done ...impl.Done) impl.Line {
	t.Helper()
	got, gotDone := impl.LineHear(l, number, unit, a)
	if !equalLine(got, want) || !equalDones(gotDone, done) {
		t.Errorf("LineHear of %v, %d, %d, %v is %v, %v, not %v, %v", l, number, unit, a, got, gotDone, want, done)
	}
	return got
}

// staysAll wants that a line that is not right is left as it is by all that is done to it.
func staysAll(t *testing.T, l impl.Line) {
	t.Helper()
	putsCall(t, l, callOf(3), l, false)
	for _, now := range []int{0, l.Due, later(l.Due, 1), 1000, lastTick, -1} {
		ticksTo(t, l, now, l, nil, nil)
	}
	hearsTo(t, l, l.Number, l.Call.Unit, fitting(l.Call.Req), l)
	hearsTo(t, l, l.Number, l.Call.Unit, impl.Resp{Kind: l.Call.Req.Kind, Fault: 2}, l)
	for _, c := range l.Queue[:min(2, len(l.Queue))] {
		hearsTo(t, l, l.Next, c.Unit, fitting(c.Req), l)
	}
}

func TestLineNewOfEveryWaitAndTries(t *testing.T) {
	waits, tries := slices.Clone(farNumbers), slices.Clone(farNumbers)
	for n := -3; n <= 110; n++ {
		waits = append(waits, n)
	}
	for n := -3; n <= 12; n++ {
		tries = append(tries, n)
	}
	for _, w := range waits {
		for _, n := range tries {
			right := 1 <= w && w <= 100 && 0 <= n && n <= 5
			want := impl.Line{}
			if right {
				want = impl.Line{Wait: w, Tries: n}
			}
			l := impl.LineNew(w, n)
			if !equalLine(l, want) || impl.LineOk(l) != right {
				t.Errorf("LineNew(%d, %d) is %v, and LineOk of it %v", w, n, l, impl.LineOk(l))
			}
			lineIs(t, "wait and tries", impl.Line{Wait: w, Tries: n}, right)
			busy := busyLine(callsFrom(0, 3)...)
			busy.Wait, busy.Tries, busy.Left = w, n, 0
			lineIs(t, "wait and tries, busy", busy, right)
		}
	}
}

// rightLines gives lines that ask and that do not, with none to 40 calls that wait, with each number at its ends.
func rightLines() []impl.Line {
	var list []impl.Line
	for _, n := range []int{0, 1, 2, 10, 39, 40} {
		for tries := range 6 {
			free := impl.Line{Queue: callsFrom(n, n), Next: []int{0, 1, 65534, 65535}[(n+tries)%4], Wait: []int{1, 2, 99, 100}[tries%4], Tries: tries}
			list = append(list, free)
			for left := range tries + 1 {
				busy := free
				busy.Busy, busy.Call, busy.Left = true, callOf(n+left), left
				busy.Number = []int{0, 65535, 300}[left%3]
				busy.Due = edgeTicks[(n+tries+left)%len(edgeTicks)]
				list = append(list, busy)
			}
		}
	}
	return list
}

func TestLineOkOfRightLines(t *testing.T) {
	for _, l := range rightLines() {
		lineIs(t, "right", l, true)
	}
	for _, c := range []impl.Call{{Id: mostId, Part: 7, Unit: 247, Req: askAt(16, 5, 123)}, {Unit: 1, Req: askAt(1, 0, 2000)}} {
		lineIs(t, "asked, at its ends", busyLine(c), true)
		lineIs(t, "waits, at its ends", busyLine(callOf(0), callOf(1), c), true)
	}
	// an empty list and nil are the same value
	lineIs(t, "empty lists", impl.Line{Queue: []impl.Call{}, Call: impl.Call{Req: impl.Req{Words: []int{}, Bits: []bool{}}}, Wait: 1}, true)
	lineIs(t, "behind the length", impl.Line{Queue: append(callsFrom(0, 40), impl.Call{})[:40], Wait: 1}, true)
}

// A callEdit makes a call one at an end of what is right, or beyond it.
type callEdit struct {
	what  string
	edit  func(*impl.Call)
	right bool
}

// numberEdits gives edits of the numbers of a call.
func numberEdits() []callEdit {
	var list []callEdit
	add := func(what string, field func(*impl.Call) *int, right bool, numbers ...int) {
		for _, n := range numbers {
			list = append(list, callEdit{fmt.Sprint(what, " ", n), func(c *impl.Call) { *field(c) = n }, right})
		}
	}
	id := func(c *impl.Call) *int { return &c.Id }
	part := func(c *impl.Call) *int { return &c.Part }
	unit := func(c *impl.Call) *int { return &c.Unit }
	add("Id", id, true, 0, 1, 65536, 999999999, mostId)
	add("Id", id, false, -1, mostId+1, 1<<32+1, -1<<32, math.MinInt, math.MaxInt)
	add("Part", part, true, 0, 1, 2, 3, 4, 5, 6, 7)
	add("Part", part, false, -2, -1, 8, 9, 10)
	add("Part", part, false, farNumbers...)
	add("Unit", unit, true, 1, 2, 128, 246, 247)
	add("Unit", unit, false, -1, 0, 248, 249, 255)
	add("Unit", unit, false, farNumbers...)
	return list
}

func callEdits() []callEdit {
	list := numberEdits()
	for _, q := range wrongQuestions() {
		list = append(list, callEdit{fmt.Sprint("Req ", q), func(c *impl.Call) { c.Req = q }, false})
	}
	for _, k := range askKinds {
		list = append(list, callEdit{fmt.Sprint("Req of ", k.kind), func(c *impl.Call) { c.Req = askAt(k.kind, 3, k.most) }, true})
	}
	return list
}

func TestEachCallOfALine(t *testing.T) {
	for _, k := range callEdits() {
		c := callOf(4)
		k.edit(&c)
		for _, l := range []impl.Line{busyLine(c), busyLine(callOf(0), c), busyLine(callOf(0), c, callOf(1)), busyLine(callOf(0), callOf(1), c)} {
			lineIs(t, k.what, l, k.right)
			if !k.right {
				staysAll(t, l)
			}
			if equalCall(l.Call, c) {
				continue
			}
			free := slowFree(l)
			lineIs(t, k.what, free, k.right)
			if !k.right {
				staysAll(t, free)
			}
		}
		full := append(callsFrom(0, 40), c)
		lineIs(t, k.what+", the last", busyLine(full...), k.right)
		slices.Reverse(full)
		lineIs(t, k.what+", asked", busyLine(full...), k.right)
		for _, l := range []impl.Line{impl.LineNew(3, 2), busyLine(callsFrom(0, 3)...), busyLine(callsFrom(0, 40)...)} {
			want := l
			if k.right {
				want.Queue = append(slices.Clone(l.Queue), c)
			}
			putsCall(t, l, c, want, k.right)
		}
	}
}

func TestTheZeroCallIsNone(t *testing.T) {
	putsCall(t, impl.LineNew(3, 2), impl.Call{}, impl.LineNew(3, 2), false)
	lineIs(t, "asks the zero call", busyLine(impl.Call{}), false)
	staysAll(t, busyLine(impl.Call{}))
	lineIs(t, "the zero line", impl.Line{}, false)
	staysAll(t, impl.Line{})
}

func TestLinesWithTooManyCalls(t *testing.T) {
	for _, n := range []int{41, 42, 80, 1000} {
		for _, l := range []impl.Line{{Queue: callsFrom(0, n), Wait: 3, Tries: 2}, busyLine(callsFrom(0, n+1)...)} {
			lineIs(t, fmt.Sprint(n, " calls"), l, false)
			staysAll(t, l)
		}
	}
	for n := range 41 {
		lineIs(t, fmt.Sprint(n, " calls"), impl.Line{Queue: callsFrom(0, n), Wait: 3, Tries: 2}, true)
		lineIs(t, fmt.Sprint(n, " calls, busy"), busyLine(callsFrom(0, n+1)...), true)
	}
}

func TestNumberNextAndDueAtTheirEnds(t *testing.T) {
	calls := callsFrom(0, 3)
	for _, n := range []int{0, 1, 255, 256, 65534, 65535} {
		number, next := busyLine(calls...), busyLine(calls...)
		number.Number, next.Next = n, n
		lineIs(t, "Number", number, true)
		lineIs(t, "Next", next, true)
		lineIs(t, "Next, free", impl.Line{Next: n, Wait: 1}, true)
	}
	for _, n := range noWords {
		number, next := busyLine(calls...), busyLine(calls...)
		number.Number, next.Next = n, n
		for _, l := range []impl.Line{number, next, slowFree(next)} {
			lineIs(t, "no word", l, false)
			staysAll(t, l)
		}
	}
	for _, n := range edgeTicks {
		l := busyLine(calls...)
		l.Due = n
		lineIs(t, "Due", l, true)
	}
	for _, n := range noTicks {
		l := busyLine(calls...)
		l.Due = n
		lineIs(t, "Due", l, false)
		staysAll(t, l)
	}
}

func TestLeftIsAtMostTries(t *testing.T) {
	lefts := slices.Clone(farNumbers)
	for n := -3; n <= 10; n++ {
		lefts = append(lefts, n)
	}
	for tries := range 6 {
		for _, left := range lefts {
			l := busyLine(callsFrom(0, 2)...)
			l.Tries, l.Left = tries, left
			right := 0 <= left && left <= tries
			lineIs(t, fmt.Sprint("Left ", left, " of ", tries), l, right)
			if !right {
				staysAll(t, l)
			}
		}
	}
}

func TestALineThatAsksNothingHasNothingAsked(t *testing.T) {
	for _, queue := range [][]impl.Call{nil, callsFrom(0, 1), callsFrom(0, 40)} {
		plain := impl.Line{Queue: queue, Next: 8, Wait: 3, Tries: 2}
		lineIs(t, "free", plain, true)
		for i, edit := range []func(*impl.Line){
			func(l *impl.Line) { l.Call = callOf(4) },
			func(l *impl.Line) { l.Call.Id = 1 },
			func(l *impl.Line) { l.Call.Part = 1 },
			func(l *impl.Line) { l.Call.Unit = 1 },
			func(l *impl.Line) { l.Call.Req = askAt(3, 1, 1) },
			func(l *impl.Line) { l.Call.Req.Kind = 3 },
			func(l *impl.Line) { l.Call.Req.At = 1 },
			func(l *impl.Line) { l.Call.Req.N = 1 },
			func(l *impl.Line) { l.Call.Req.WAt = 1 },
			func(l *impl.Line) { l.Call.Req.Words = []int{0} },
			func(l *impl.Line) { l.Call.Req.Bits = []bool{false} },
			func(l *impl.Line) { l.Number = 1 },
			func(l *impl.Line) { l.Number = 65535 },
			func(l *impl.Line) { l.Number = -1 },
			func(l *impl.Line) { l.Due = 1 },
			func(l *impl.Line) { l.Due = lastTick },
			func(l *impl.Line) { l.Due = -1 },
			func(l *impl.Line) { l.Left = 1 },
			func(l *impl.Line) { l.Left = 2 },
			func(l *impl.Line) { l.Left = -1 },
			func(l *impl.Line) { *l = busyLine(callsFrom(0, 3)...); l.Busy = false },
		} {
			l := plain
			edit(&l)
			lineIs(t, fmt.Sprint("not free, ", i), l, false)
			staysAll(t, l)
		}
	}
}

func TestPutUpToTheMostCalls(t *testing.T) {
	for _, start := range []impl.Line{impl.LineNew(3, 2), busyLine(callOf(99))} {
		l := start
		for i := range 40 {
			want := l
			want.Queue = callsFrom(0, i+1)
			l = putsCall(t, l, callOf(i), want, true)
			lineIs(t, "put", l, true)
		}
		for i := range 3 {
			l = putsCall(t, l, callOf(40+i), l, false)
		}
		if len(l.Queue) != mostCalls || impl.MaxQueue != mostCalls {
			t.Errorf("%d calls wait, of %d", len(l.Queue), impl.MaxQueue)
		}
	}
	// the same call may wait twice
	l := impl.LineNew(1, 0)
	for n := range 3 {
		l = putsCall(t, l, callOf(5), impl.Line{Queue: slices.Repeat(callsFrom(5, 1), n+1), Wait: 1}, true)
	}
}

func TestALineThatAsksNothing(t *testing.T) {
	for _, wait := range []int{1, 3, 100} {
		for tries := range 6 {
			for _, next := range []int{0, 7, 65535} {
				for _, now := range edgeTicks {
					free := impl.Line{Next: next, Wait: wait, Tries: tries}
					ticksTo(t, free, now, free, nil, nil)
					free.Queue = callsFrom(2, 3)
					c := free.Queue[0]
					want := impl.Line{Queue: free.Queue[1:], Busy: true, Call: c, Number: next, Due: later(now, wait), Left: tries, Next: (next + 1) % 65536, Wait: wait, Tries: tries}
					ticksTo(t, free, now, want, []impl.Order{{Number: next, Unit: c.Unit, Req: c.Req}}, nil)
				}
			}
		}
	}
}

// dueAhead tells of ticks whether they are at Due or behind it, by how far behind it they are.
var dueAhead = []struct {
	behind int
	due    bool
}{
	{0, true}, {1, true}, {2, true}, {100, true}, {65536, true}, {1<<31 - 2, true}, {1<<31 - 1, true},
	{1 << 31, false}, {1<<31 + 1, false}, {lastTick - 100, false}, {lastTick - 1, false}, {lastTick, false},
}

func TestAskedAgainWhenDue(t *testing.T) {
	for _, due := range edgeTicks {
		for _, d := range dueAhead {
			for left := range 4 {
				l := busyLine(callsFrom(6, 3)...)
				l.Due, l.Left, l.Tries, l.Wait = due, left, 3, 5
				now := later(due, d.behind)
				if !d.due {
					ticksTo(t, l, now, l, nil, nil)
					continue
				}
				if left == 0 {
					continue
				}
				want := l
				want.Due, want.Left = later(now, 5), left-1
				ticksTo(t, l, now, want, []impl.Order{{Number: 7, Unit: l.Call.Unit, Req: l.Call.Req}}, nil)
			}
		}
	}
}

func TestGivenUpWhenNoneIsLeft(t *testing.T) {
	for i := range 2 * len(askKinds) {
		for _, due := range edgeTicks {
			for _, behind := range []int{0, 1, 1000, 1<<31 - 1} {
				l := busyLine(callOf(i))
				l.Due, l.Left, l.Next = due, 0, 65535
				now := later(due, behind)
				done := []impl.Done{{Id: l.Call.Id, Part: l.Call.Part, Resp: impl.Resp{Kind: l.Call.Req.Kind, Fault: impl.FaultTarget}}}
				ticksTo(t, l, now, impl.Line{Next: 65535, Wait: 3, Tries: 2}, nil, done)
				l.Queue = callsFrom(i+1, 2)
				c := l.Queue[0]
				want := impl.Line{Queue: l.Queue[1:], Busy: true, Call: c, Number: 65535, Due: later(now, 3), Left: 2, Next: 0, Wait: 3, Tries: 2}
				ticksTo(t, l, now, want, []impl.Order{{Number: 65535, Unit: c.Unit, Req: c.Req}}, done)
			}
		}
	}
}

func TestLineTickOfNoTick(t *testing.T) {
	for _, l := range rightLines() {
		for _, now := range noTicks {
			ticksTo(t, l, now, l, nil, nil)
		}
	}
}

func TestWhereTicksGoRound(t *testing.T) {
	c := callOf(2)
	l, _ := impl.LinePut(impl.LineNew(3, 1), c)
	order := []impl.Order{{Number: 0, Unit: c.Unit, Req: c.Req}}
	busy := impl.Line{Busy: true, Call: c, Due: 2, Left: 1, Next: 1, Wait: 3, Tries: 1}
	l = ticksTo(t, l, lastTick, busy, order, nil)
	for _, now := range []int{lastTick, 0, 1, lastTick - 5} {
		l = ticksTo(t, l, now, busy, nil, nil)
	}
	busy.Due, busy.Left = 5, 0
	l = ticksTo(t, l, 2, busy, order, nil)
	for _, now := range []int{2, 3, 4, lastTick} {
		l = ticksTo(t, l, now, busy, nil, nil)
	}
	ticksTo(t, l, 5, impl.Line{Next: 1, Wait: 3, Tries: 1}, nil, []impl.Done{{Id: c.Id, Part: c.Part, Resp: impl.Resp{Kind: c.Req.Kind, Fault: 11}}})
}

func TestEachTryIsAskedOnce(t *testing.T) {
	for _, wait := range []int{1, 2, 7, 100} {
		for tries := range 6 {
			c := callOf(wait + tries)
			l, _ := impl.LinePut(impl.LineNew(wait, tries), c)
			for tick := range wait*(tries+1) + 3 {
				now := later(lastTick-3, tick)
				next, sent, done := impl.LineTick(l, now)
				asked, ended := tick%wait == 0 && tick <= wait*tries, tick == wait*(tries+1)
				if asked != (len(sent) == 1) || !asked && len(sent) != 0 || ended != (len(done) == 1) || !ended && len(done) != 0 {
					t.Fatalf("wait %d, tries %d: %d ticks on %v is sent and %v done", wait, tries, tick, sent, done)
				}
				if asked && !equalOrders(sent, []impl.Order{{Unit: c.Unit, Req: c.Req}}) {
					t.Errorf("asked as %v", sent)
				}
				l = next
			}
		}
	}
}

func TestHearsWhatWasAsked(t *testing.T) {
	for i := range 3 * len(askKinds) {
		for _, number := range []int{0, 1, 300, 65535} {
			for _, waiting := range []int{0, 1, 40} {
				l := busyLine(callsFrom(i, 1+waiting)...)
				l.Number = number
				c := l.Call
				free := impl.Line{Queue: callsFrom(i+1, waiting), Next: 8, Wait: 3, Tries: 2}
				for _, a := range []impl.Resp{fitting(c.Req), {Kind: c.Req.Kind, Fault: 1}, {Kind: c.Req.Kind, Fault: 11}, {Kind: c.Req.Kind, Fault: 255}} {
					heard := hearsTo(t, l, number, c.Unit, a, free, impl.Done{Id: c.Id, Part: c.Part, Resp: a})
					// the same answer once more
					hearsTo(t, heard, number, c.Unit, a, free)
				}
			}
		}
	}
}

func TestAnotherNumberIsPassedOver(t *testing.T) {
	for _, number := range []int{0, 1, 300, 65535} {
		l := busyLine(callsFrom(3, 4)...)
		l.Number, l.Next = number, (number+1)%65536
		a := fitting(l.Call.Req)
		others := append([]int{number - 1, number + 1, l.Next, number + 65536, number - 65536, number + 256, number ^ 1, number + 1<<32, -number - 1}, noWords...)
		for n := range 65536 {
			others = append(others, n)
		}
		for _, other := range others {
			if other != number {
				hearsTo(t, l, other, l.Call.Unit, a, l)
			}
		}
	}
}

func TestAnotherUnitIsPassedOver(t *testing.T) {
	for i := range 20 {
		l := busyLine(callsFrom(i, 3)...)
		unit := l.Call.Unit
		for other := -300; other <= 600; other++ {
			if other != unit {
				hearsTo(t, l, 7, other, fitting(l.Call.Req), l)
			}
		}
		for _, far := range append(slices.Clone(farNumbers), unit+256, unit+1<<32, unit-1<<32) {
			hearsTo(t, l, 7, far, fitting(l.Call.Req), l)
		}
	}
}

func TestWhatDoesNotSuitIsPassedOver(t *testing.T) {
	for i := range 3 * len(askKinds) {
		l := busyLine(callsFrom(i, 3)...)
		for _, a := range notSuiting(l.Call.Req) {
			doesNotSuit(t, l.Call.Req, a)
			hearsTo(t, l, 7, l.Call.Unit, a, l)
		}
		// what would suit a call that waits
		for _, c := range l.Queue {
			hearsTo(t, l, 7, l.Call.Unit, fitting(c.Req), l)
			hearsTo(t, l, 8, c.Unit, fitting(c.Req), l)
		}
	}
}

func TestALineThatAsksNothingHearsNothing(t *testing.T) {
	for _, queue := range [][]impl.Call{nil, callsFrom(0, 1), callsFrom(0, 40)} {
		l := impl.Line{Queue: queue, Wait: 3, Tries: 2}
		hearsTo(t, l, 0, 0, impl.Resp{}, l)
		for i := range 10 {
			c := callOf(i)
			hearsTo(t, l, 0, c.Unit, fitting(c.Req), l)
			hearsTo(t, l, 0, 0, fitting(c.Req), l)
		}
	}
}

// A watch looks at a line from without: what was put and is not done yet, and what is asked of it.
type watch struct {
	line  impl.Line
	open  []impl.Call
	asked bool
	times int
	next  int
}

func (w *watch) put(t *testing.T, c impl.Call) {
	t.Helper()
	waiting := len(w.open)
	if w.asked {
		waiting--
	}
	l, ok := impl.LinePut(w.line, c)
	if ok != (waiting < mostCalls) {
		t.Fatalf("%d wait, and one more is put: %v", waiting, ok)
	}
	if ok {
		w.open = append(w.open, c)
	}
	w.line = l
}

// ends wants that what is done is what is asked, and that it is told this.
func (w *watch) ends(t *testing.T, done []impl.Done, told impl.Resp) {
	t.Helper()
	if !w.asked || !equalDones(done, []impl.Done{{Id: w.open[0].Id, Part: w.open[0].Part, Resp: told}}) {
		t.Fatalf("%v is done, while %v is asked", done, w.open)
	}
	w.open, w.asked = w.open[1:], false
}

// sends wants that an order is of the first call that is not done, under the last number or the one behind it.
func (w *watch) sends(t *testing.T, sent []impl.Order) {
	t.Helper()
	if len(w.open) == 0 {
		t.Fatalf("%v is sent, and nothing waits", sent)
	}
	if !w.asked {
		w.asked, w.times, w.next = true, 0, (w.next+1)%65536
	}
	w.times++
	want := impl.Order{Number: (w.next + 65535) % 65536, Unit: w.open[0].Unit, Req: w.open[0].Req}
	if w.times > w.line.Tries+1 || !equalOrders(sent, []impl.Order{want}) {
		t.Fatalf("%v is sent as the %dth time of %v", sent, w.times, want)
	}
}

func (w *watch) tick(t *testing.T, now int) {
	t.Helper()
	l, sent, done := impl.LineTick(w.line, now)
	if len(done) > 0 {
		if w.times != w.line.Tries+1 {
			t.Fatalf("given up behind %d times", w.times)
		}
		w.ends(t, done, impl.Resp{Kind: w.open[0].Req.Kind, Fault: 11})
	}
	if len(sent) > 0 {
		w.sends(t, sent)
	}
	w.line = l
}

// hear hands in an answer; mine is whether it is one to what is asked.
func (w *watch) hear(t *testing.T, number int, unit int, a impl.Resp, mine bool) {
	t.Helper()
	l, done := impl.LineHear(w.line, number, unit, a)
	if mine {
		w.ends(t, done, a)
	} else if len(done) != 0 || !equalLine(l, w.line) {
		t.Fatalf("%v, %d, %d of another one changes the line, or is done: %v", a, number, unit, done)
	}
	w.line = l
}

// hearAny hands in an answer of the kind that b tells: right, twice, or wrong in one thing.
func (w *watch) hearAny(t *testing.T, b byte) {
	t.Helper()
	if !w.asked {
		w.hear(t, (w.next+65535)%65536, 1+int(b)%247, fitting(callOf(int(b)).Req), false)
		return
	}
	c, number := w.open[0], (w.next+65535)%65536
	a := fitting(c.Req)
	switch b % 6 {
	case 0:
		w.hear(t, number, c.Unit, a, true)
		w.hear(t, number, c.Unit, a, false)
	case 1:
		w.hear(t, number, c.Unit, impl.Resp{Kind: c.Req.Kind, Fault: 1 + int(b)%255}, true)
	case 2:
		w.hear(t, w.next, c.Unit, a, false)
		w.hear(t, (number+65535)%65536, c.Unit, a, false)
	case 3:
		w.hear(t, number, c.Unit%247+1, a, false)
	case 4:
		for _, wrong := range notSuiting(c.Req) {
			w.hear(t, number, c.Unit, wrong, false)
		}
	case 5:
		w.hear(t, number, c.Unit, a, true)
	}
}

// stillRight wants that the line is right, and has just what is open.
func (w *watch) stillRight(t *testing.T) {
	t.Helper()
	has := slices.Clone(w.line.Queue)
	if w.line.Busy {
		has = append([]impl.Call{w.line.Call}, has...)
	}
	if !impl.LineOk(w.line) || w.line.Busy != w.asked || w.line.Next != w.next || !slices.EqualFunc(has, w.open, equalCall) {
		t.Fatalf("the line is %v, while %v is open and the next number %d", w.line, w.open, w.next)
	}
}

func TestOneAtATimeAndEachDoneOnce(t *testing.T) {
	for seed := range uint32(300) {
		b := sampleBytes(seed, 400)
		wait, tries := 1+int(b[0])%5, int(b[1])%6
		w := watch{line: impl.LineNew(wait, tries)}
		now, calls := []int{0, lastTick - 100, 1<<31 - 50}[seed%3], 0
		for _, x := range b[2:] {
			switch {
			case x < 90:
				w.put(t, callOf(calls))
				calls++
			case x < 200:
				now = later(now, 1)
				w.tick(t, now)
			default:
				w.hearAny(t, x)
			}
			w.stillRight(t)
		}
		for range (mostCalls+1)*wait*(tries+1) + 2 {
			now = later(now, 1)
			w.tick(t, now)
		}
		w.stillRight(t)
		if len(w.open) != 0 {
			t.Fatalf("%v are never done", w.open)
		}
	}
}

func TestNumbersGoRound(t *testing.T) {
	w := watch{line: impl.LineNew(2, 0)}
	for i := range 65540 {
		w.put(t, impl.Call{Id: i, Unit: 9, Req: askAt(3, i%60000, 1)})
		w.tick(t, i)
		w.hear(t, i%65536, 9, impl.Resp{Kind: 3, Words: []int{i % 65536}}, true)
	}
	w.stillRight(t)
	if w.line.Next != 4 {
		t.Errorf("behind 65540 calls the next number is %d", w.line.Next)
	}
}

// An answer to what was given up does not end what is asked under the next number, be it of the same unit and question.
func TestALateAnswerEndsNothing(t *testing.T) {
	c := impl.Call{Id: 1, Unit: 9, Req: askAt(3, 5, 2)}
	w := watch{line: impl.LineNew(1, 0)}
	w.put(t, c)
	c.Id = 2
	w.put(t, c)
	w.tick(t, 0)
	w.tick(t, 1)
	w.hear(t, 0, 9, fitting(c.Req), false)
	w.hear(t, 1, 9, fitting(c.Req), true)
	w.hear(t, 0, 9, fitting(c.Req), false)
	w.hear(t, 1, 9, fitting(c.Req), false)
	w.stillRight(t)
}

// An answer behind the tick at which it was asked again still counts, and one to each order is done once.
func TestAnAnswerToAnyOfItsOrders(t *testing.T) {
	for tries := range 6 {
		for heard := range tries + 1 {
			c := callOf(tries + heard)
			w := watch{line: impl.LineNew(2, tries)}
			w.put(t, c)
			for i := range heard + 1 {
				w.tick(t, 2*i)
			}
			w.hear(t, 0, c.Unit, fitting(c.Req), true)
			for range heard {
				w.hear(t, 0, c.Unit, fitting(c.Req), false)
			}
			for i := range 20 {
				w.tick(t, 2*heard+i)
			}
			w.stillRight(t)
		}
	}
}

// playAsWorded moves a line by what bytes tell, and wants each time what the chapter's words tell.
func playAsWorded(t *testing.T, b []byte) {
	t.Helper()
	l, now := impl.LineNew(1+len(b)%7, len(b)%6), 0
	for i, x := range b {
		switch x % 4 {
		case 0:
			c := callOf(int(x) + i%3)
			if x > 220 {
				c.Unit = int(x) - 220
			}
			want, ok := slowPutCall(l, c)
			l = putsCall(t, l, c, want, ok)
		case 1, 2:
			now = later(now, []int{0, 1, 1, 2, 3, 7, 1<<31 - 2, lastTick}[x/4%8])
			want, sent, done := slowTick(l, now)
			l = ticksTo(t, l, now, want, sent, done)
		case 3:
			number, unit, a := l.Number, l.Call.Unit, fitting(l.Call.Req)
			switch x / 4 % 8 {
			case 0:
				number = int(x)
			case 1:
				unit = int(x)
			case 2:
				a = fitting(callOf(int(x)).Req)
			case 3:
				a = impl.Resp{Kind: l.Call.Req.Kind, Fault: int(x)}
			}
			want, done := slowLineHear(l, number, unit, a)
			l = hearsTo(t, l, number, unit, a, want, done...)
		}
		lineIs(t, "played", l, true)
	}
}

func TestLinesOfSamples(t *testing.T) {
	for seed := range uint32(500) {
		playAsWorded(t, sampleBytes(seed, 60+int(seed)%80))
	}
}

func FuzzLine(f *testing.F) {
	for _, b := range sampleLists() {
		f.Add(b)
	}
	f.Fuzz(func(t *testing.T, b []byte) { playAsWorded(t, b[:min(len(b), 400)]) })
}

func TestRightLinesAsWorded(t *testing.T) {
	for _, l := range rightLines() {
		want, ok := slowPutCall(l, callOf(77))
		putsCall(t, l, callOf(77), want, ok)
		for _, now := range append(slices.Clone(edgeTicks), l.Due, later(l.Due, lastTick), later(l.Due, 1)) {
			want, sent, done := slowTick(l, now)
			ticksTo(t, l, now, want, sent, done)
		}
		for _, number := range []int{0, l.Number, l.Next} {
			for _, unit := range []int{0, l.Call.Unit, 9} {
				want, done := slowLineHear(l, number, unit, fitting(l.Call.Req))
				hearsTo(t, l, number, unit, fitting(l.Call.Req), want, done...)
			}
		}
	}
}

// roomyLine gives l with marked room behind all lists, and a check that none of it was written into.
func roomyLine(t *testing.T, l impl.Line) (impl.Line, func(what string)) {
	t.Helper()
	marked := impl.Call{Id: 77, Unit: 7, Req: impl.Req{Kind: 3, N: 1}}
	whole := append(slices.Clone(l.Queue), marked, marked)
	var checks []func(what string)
	for i := range l.Queue {
		q, same := roomyReq(t, l.Queue[i].Req)
		whole[i].Req = q
		checks = append(checks, same)
	}
	q, same := roomyReq(t, l.Call.Req)
	checks = append(checks, same)
	roomyOne := l
	roomyOne.Queue, roomyOne.Call.Req = whole[:len(l.Queue)], q
	return roomyOne, func(what string) {
		t.Helper()
		for _, same := range checks {
			same(what)
		}
		if !slices.EqualFunc(whole, append(slices.Clone(l.Queue), marked, marked), equalCall) {
			t.Errorf("%s: the calls became %v", what, whole)
		}
	}
}

// A lineAnswer is all that a function of chapter 12 answers.
type lineAnswer struct {
	line impl.Line
	sent []impl.Order
	done []impl.Done
}

func (a lineAnswer) clone() lineAnswer {
	a.line, a.sent, a.done = cloneLine(a.line), slices.Clone(a.sent), slices.Clone(a.done)
	for i := range a.sent {
		a.sent[i].Req = cloneReq(a.sent[i].Req)
	}
	for i := range a.done {
		a.done[i].Resp = cloneResp(a.done[i].Resp)
	}
	return a
}

func (a lineAnswer) equal(b lineAnswer) bool {
	return equalLine(a.line, b.line) && equalOrders(a.sent, b.sent) && equalDones(a.done, b.done)
}

// lists gives all lists of numbers and bits in an answer, as those of questions.
func (a lineAnswer) lists() []impl.Req {
	list := []impl.Req{a.line.Call.Req}
	for _, c := range a.line.Queue {
		list = append(list, c.Req)
	}
	for _, o := range a.sent {
		list = append(list, o.Req)
	}
	for _, d := range a.done {
		list = append(list, impl.Req{Words: d.Resp.Words, Bits: d.Resp.Bits})
	}
	return list
}

// spoil writes over all that an answer has and the room behind it.
func (a lineAnswer) spoil() {
	for _, q := range a.lists() {
		spoilReq(q)
	}
	for i := range a.line.Queue[:cap(a.line.Queue)] {
		a.line.Queue[:cap(a.line.Queue)][i] = impl.Call{Unit: 99}
	}
	for i := range a.sent[:cap(a.sent)] {
		a.sent[:cap(a.sent)][i] = impl.Order{Unit: 99}
	}
	for i := range a.done[:cap(a.done)] {
		a.done[:cap(a.done)][i] = impl.Done{Id: 99}
	}
}

// isApart wants that no two lists of an answer share memory.
func (a lineAnswer) isApart(t *testing.T, what string) {
	t.Helper()
	lists := a.lists()
	for i, q := range lists {
		was := []impl.Req{}
		for _, other := range lists[i+1:] {
			was = append(was, cloneReq(other))
		}
		spoilReq(q)
		if !slices.EqualFunc(lists[i+1:], was, equalReq) {
			t.Fatalf("%s: two lists of one answer share memory", what)
		}
	}
}

// answersAnew asks the same thing again and again, and writes over what is answered and what was handed in.
func answersAnew(t *testing.T, what string, l impl.Line, q impl.Req, told impl.Resp, ask func(impl.Line, impl.Req, impl.Resp) lineAnswer) {
	t.Helper()
	line, sameLine := roomyLine(t, l)
	question, sameQuestion := roomyReq(t, q)
	answer, sameAnswer := roomyResp(t, told)
	same := func(what string) {
		t.Helper()
		sameLine(what)
		sameQuestion(what)
		sameAnswer(what)
	}
	first, second, third := ask(line, question, answer), ask(line, question, answer), ask(line, question, answer)
	same(what)
	was := second.clone()
	third.isApart(t, what)
	first.spoil()
	same("what " + what + " answered")
	if !second.equal(was) {
		t.Fatalf("%s of %v: two answers share memory", what, l)
	}
	lineAnswer{line: line}.spoil()
	spoilReq(question)
	spoilResp(answer)
	if !second.equal(was) {
		t.Fatalf("%s of %v: an answer shares memory with an argument", what, l)
	}
}

func askPut(l impl.Line, q impl.Req, _ impl.Resp) lineAnswer {
	next, _ := impl.LinePut(l, impl.Call{Id: 5, Unit: 6, Req: q})
	return lineAnswer{line: next}
}

func askHear(l impl.Line, _ impl.Req, a impl.Resp) lineAnswer {
	next, done := impl.LineHear(l, l.Number, l.Call.Unit, a)
	return lineAnswer{line: next, done: done}
}

func askTick(now int) func(impl.Line, impl.Req, impl.Resp) lineAnswer {
	return func(l impl.Line, _ impl.Req, _ impl.Resp) lineAnswer {
		next, sent, done := impl.LineTick(l, now)
		return lineAnswer{next, sent, done}
	}
}

// memoryLines gives lines with calls of every kind, right and not.
func memoryLines() []impl.Line {
	list := []impl.Line{{}, impl.LineNew(1, 0), {Queue: callsFrom(0, 41), Wait: 1}}
	for i := range len(askKinds) {
		l := busyLine(callsFrom(i, 12)...)
		none, wrong := l, l
		none.Left, wrong.Next = 0, -1
		list = append(list, l, none, wrong, slowFree(l), busyLine(callOf(i)), busyLine(callsFrom(i, 41)...))
	}
	return list
}

func TestLinesAnswerNewMemory(t *testing.T) {
	for _, l := range memoryLines() {
		for _, q := range []impl.Req{askAt(15, 3, 9), askAt(16, 3, 5), askAt(3, 3, 1), {Kind: 16, At: -1, Words: []int{1, 2}}} {
			answersAnew(t, "LinePut", l, q, impl.Resp{}, askPut)
		}
		for _, now := range []int{0, 999, 1000, 1001, -1} {
			answersAnew(t, "LineTick", l, impl.Req{}, impl.Resp{}, askTick(now))
		}
		answersAnew(t, "LineHear", l, impl.Req{}, fitting(l.Call.Req), askHear)
		answersAnew(t, "LineHear, of what does not suit", l, impl.Req{}, impl.Resp{Kind: 7, Words: []int{1}, Bits: []bool{true}}, askHear)
	}
}

// What an argument shares within itself, or with another one, its answer does not.
func TestWhatArgumentsShare(t *testing.T) {
	words, bits := sampleWords(5, 4), sampleBits(6, 9)
	for _, q := range []impl.Req{{Kind: 16, At: 1, Words: words}, {Kind: 15, At: 1, Bits: bits}, {Kind: 23, At: 1, N: 2, WAt: 5, Words: words}, {Kind: 6, Words: words[:1]}, {Kind: 5, Bits: bits[:1]}, {Kind: 22, Words: words[:2]}} {
		c := impl.Call{Id: 1, Unit: 9, Req: q}
		l := busyLine(c, c, c)
		a := fitting(q)
		if q.Kind == 5 || q.Kind == 6 || q.Kind == 22 {
			a.Words, a.Bits = q.Words, q.Bits
		}
		for _, left := range []int{0, 1} {
			l.Left = left
			askPut(l, q, a).isApart(t, "LinePut")
			for _, now := range []int{999, 1000} {
				askTick(now)(l, q, a).isApart(t, "LineTick")
				askTick(now)(slowFree(l), q, a).isApart(t, "LineTick")
			}
			askHear(l, q, a).isApart(t, "LineHear")
		}
		wrong := l
		wrong.Wait = 0
		askPut(wrong, q, a).isApart(t, "LinePut, refused")
		askTick(1000)(wrong, q, a).isApart(t, "LineTick, refused")
		askHear(wrong, q, a).isApart(t, "LineHear, refused")
	}
}

func TestLineOkLeavesItsArgument(t *testing.T) {
	for _, l := range memoryLines() {
		line, same := roomyLine(t, l)
		if impl.LineOk(line) != slowLine(l) {
			t.Errorf("LineOk reads behind the lists of %v", l)
		}
		same("LineOk")
	}
}

// What is answered hangs on the arguments alone: asked again in another order, it is the same.
func TestLinesKeepNothing(t *testing.T) {
	lines := append(memoryLines(), rightLines()...)
	ask := func() (out []string) {
		for _, l := range lines {
			a := fitting(l.Call.Req)
			out = append(out, fmt.Sprint(impl.LineOk(l), askPut(l, askAt(3, 1, 1), a), askTick(1000)(l, impl.Req{}, a), askHear(l, impl.Req{}, a), impl.LineNew(l.Wait, l.Tries)))
		}
		return out
	}
	first := ask()
	slices.Reverse(lines)
	again := ask()
	slices.Reverse(again)
	if !slices.Equal(first, again) {
		t.Error("asked in another order, other things are answered")
	}
}
