package tests

import (
	"fmt"
	"slices"
	"testing"

	"loop.example/g00129/impl"
)

const mostCount = 1000000000

func equalFabric(a impl.Fabric, b impl.Fabric) bool {
	return a.Now == b.Now && equalConfig(a.Set, b.Set) && equalTable(a.Open, b.Open) && slices.EqualFunc(a.Lines, b.Lines, equalLine) &&
		a.Asked == b.Asked && a.Replied == b.Replied && a.Faults == b.Faults && a.Sent == b.Sent
}

func equalSends(a []impl.Send, b []impl.Send) bool {
	return slices.EqualFunc(a, b, func(x impl.Send, y impl.Send) bool {
		return x.Port == y.Port && equalOrders([]impl.Order{x.Order}, []impl.Order{y.Order})
	})
}

// cloneFabric has lists of its own where tests write into one.
func cloneFabric(f impl.Fabric) impl.Fabric {
	f.Set.Rules, f.Open, f.Lines = slices.Clone(f.Set.Rules), cloneTable(f.Open), slices.Clone(f.Lines)
	for i, l := range f.Lines {
		f.Lines[i] = cloneLine(l)
	}
	return f
}

// callsAt gives the calls of a line: first what is asked, then what waits.
func callsAt(l impl.Line) []impl.Call {
	if l.Busy {
		return append([]impl.Call{l.Call}, l.Queue...)
	}
	return l.Queue
}

// slowPart is the part that a call is of, and whether it is open and was not told.
func slowPart(x impl.Table, c impl.Call) (impl.Part, bool) {
	for _, p := range x.List {
		if p.Id == c.Id && c.Part < len(p.Parts) && !p.Has[c.Part] {
			return p.Parts[c.Part], true
		}
	}
	return impl.Part{}, false
}

// slowCalls tells whether calls and parts are as chapter 14 tells it: each call is held against all parts and all other
// calls, each part against all calls.
func slowCalls(f impl.Fabric) bool {
	var all []impl.Call
	for port, l := range f.Lines {
		for _, c := range callsAt(l) {
			part, open := slowPart(f.Open, c)
			if !open || part.Port != port || part.Unit != c.Unit || !equalReq(part.Req, c.Req) {
				return false
			}
			all = append(all, c)
		}
	}
	for _, p := range f.Open.List {
		for i, has := range p.Has {
			n := 0
			for _, c := range all {
				if c.Id == p.Id && c.Part == i {
					n++
				}
			}
			if !has && n != 1 {
				return false
			}
		}
	}
	return true
}

// slowFabric is FabricOk as chapter 14 words it.
func slowFabric(f impl.Fabric) bool {
	for _, n := range []int{f.Asked, f.Replied, f.Faults, f.Sent} {
		if n < 0 || n > 1000000000 {
			return false
		}
	}
	for _, l := range f.Lines {
		if !slowLine(l) {
			return false
		}
	}
	return f.Now >= 0 && f.Now <= lastTick && slowConfig(f.Set) && slowTable(f.Open) && len(f.Lines) == 6 && slowCalls(f)
}

// slowReplied counts replies in f, which is the test's own.
func slowReplied(f *impl.Fabric, replies []impl.Reply) {
	for _, r := range replies {
		f.Replied = min(f.Replied+1, mostCount)
		if r.Resp.Fault > 0 {
			f.Faults = min(f.Faults+1, mostCount)
		}
	}
}

// slowBusy tells whether a fabric has no room for these parts.
func slowBusy(f impl.Fabric, list []impl.Part) bool {
	for port, l := range f.Lines {
		n := len(l.Queue)
		for _, p := range list {
			if p.Port == port {
				n++
			}
		}
		if n > 40 {
			return true
		}
	}
	return len(f.Open.List) == 16 || f.Open.Next == 1000000000
}

// slowAsk is FabricAsk as chapter 14 words it.
func slowAsk(f impl.Fabric, source int, tag int, unit int, q impl.Req) (impl.Fabric, []impl.Reply) {
	if !slowFabric(f) || source < 0 || source > 1000000000 || tag < 0 || tag > 1000000000 || !impl.ReqOk(q) {
		return f, nil
	}
	f = cloneFabric(f)
	f.Asked = min(f.Asked+1, mostCount)
	list, fault := slowParts(f.Set.Rules, unit, q)
	if fault == 0 && slowBusy(f, list) {
		fault = 6
	}
	if fault != 0 {
		replies := []impl.Reply{{Source: source, Tag: tag, Req: q, Resp: impl.Resp{Kind: q.Kind, Fault: fault}}}
		slowReplied(&f, replies)
		return f, replies
	}
	id := f.Open.Next
	f.Open.Next++
	f.Open.List = append(f.Open.List, impl.Pend{Id: id, Source: source, Tag: tag, Unit: unit, Req: q, Parts: list, Has: make([]bool, len(list)), Told: make([]impl.Resp, len(list))})
	for i, p := range list {
		f.Lines[p.Port].Queue = append(f.Lines[p.Port].Queue, impl.Call{Id: id, Part: i, Unit: p.Unit, Req: p.Req})
	}
	return f, nil
}

// slowDone fills f, which is the test's own, with what is done.
func slowDone(f *impl.Fabric, done []impl.Done) []impl.Reply {
	var all []impl.Reply
	for _, d := range done {
		var replies []impl.Reply
		f.Open, replies = slowFill(f.Open, d.Id, d.Part, d.Resp)
		all = append(all, replies...)
	}
	slowReplied(f, all)
	return all
}

// slowFabricTick is FabricTick as chapter 14 words it.
func slowFabricTick(f impl.Fabric) (impl.Fabric, []impl.Send, []impl.Reply) {
	if !slowFabric(f) {
		return f, nil, nil
	}
	f = cloneFabric(f)
	f.Now = later(f.Now, 1)
	var sent []impl.Send
	var replies []impl.Reply
	for port := range 6 {
		l, orders, done := slowTick(f.Lines[port], f.Now)
		f.Lines[port] = l
		for _, o := range orders {
			sent = append(sent, impl.Send{Port: port, Order: o})
			f.Sent = min(f.Sent+1, mostCount)
		}
		replies = append(replies, slowDone(&f, done)...)
	}
	return f, sent, replies
}

// slowFabricHear is FabricHear as chapter 14 words it.
func slowFabricHear(f impl.Fabric, port int, number int, unit int, a impl.Resp) (impl.Fabric, []impl.Reply) {
	if !slowFabric(f) || port < 0 || port > 5 {
		return f, nil
	}
	f = cloneFabric(f)
	l, done := slowLineHear(f.Lines[port], number, unit, a)
	f.Lines[port] = l
	return f, slowDone(&f, done)
}

// slowSwap is FabricSwap as chapter 14 words it.
func slowSwap(f impl.Fabric, rules []impl.Rule) (impl.Fabric, bool) {
	if !slowFabric(f) || !slowRules(rules) {
		return f, false
	}
	f.Set.Rules = rules
	return f, true
}

// slowLoad is Load as chapter 14 words it.
func slowLoad(f impl.Fabric) int {
	n := 0
	for _, l := range f.Lines {
		n += len(callsAt(l))
	}
	if !slowFabric(f) {
		return 0
	}
	return n
}

// fabricIs wants that FabricOk tells this, and Load what goes with it; the chapter's words must tell the same.
func fabricIs(t *testing.T, what string, f impl.Fabric, right bool) {
	t.Helper()
	if slow := slowFabric(f); slow != right {
		t.Fatalf("%s: as worded, FabricOk of %v is %v", what, f, slow)
	}
	if got := impl.FabricOk(f); got != right {
		t.Errorf("%s: FabricOk of %v is %v", what, f, got)
	}
	if got := impl.Load(f); got != slowLoad(f) {
		t.Errorf("%s: Load of %v is %d, not %d", what, f, got, slowLoad(f))
	}
}

// asksTo wants of FabricAsk what the chapter's words tell, and that a right fabric stays right.
func asksTo(t *testing.T, what string, f impl.Fabric, source int, tag int, unit int, q impl.Req) (impl.Fabric, []impl.Reply) {
	t.Helper()
	want, replies := slowAsk(f, source, tag, unit, q)
	got, gotReplies := impl.FabricAsk(f, source, tag, unit, q)
	if !equalFabric(got, want) || !equalReplies(gotReplies, replies) {
		t.Errorf("%s: FabricAsk of %v, %d, %d, %d, %v is %v, %v, not %v, %v", what, f, source, tag, unit, q, got, gotReplies, want, replies)
	}
	fabricIs(t, what, got, slowFabric(f))
	return got, gotReplies
}

// ticksFabric wants of FabricTick what the chapter's words tell, and that a right fabric stays right.
func ticksFabric(t *testing.T, what string, f impl.Fabric) (impl.Fabric, []impl.Send, []impl.Reply) {
	t.Helper()
	want, sent, replies := slowFabricTick(f)
	got, gotSent, gotReplies := impl.FabricTick(f)
	if !equalFabric(got, want) || !equalSends(gotSent, sent) || !equalReplies(gotReplies, replies) {
		t.Errorf("%s: FabricTick of %v is %v, %v, %v, not %v, %v, %v", what, f, got, gotSent, gotReplies, want, sent, replies)
	}
	fabricIs(t, what, got, slowFabric(f))
	return got, gotSent, gotReplies
}

// hearsFabric wants of FabricHear what the chapter's words tell, and that a right fabric stays right.
func hearsFabric(t *testing.T, what string, f impl.Fabric, port int, number int, unit int, a impl.Resp) (impl.Fabric, []impl.Reply) {
	t.Helper()
	want, replies := slowFabricHear(f, port, number, unit, a)
	got, gotReplies := impl.FabricHear(f, port, number, unit, a)
	if !equalFabric(got, want) || !equalReplies(gotReplies, replies) {
		t.Errorf("%s: FabricHear of %v, %d, %d, %d, %v is %v, %v, not %v, %v", what, f, port, number, unit, a, got, gotReplies, want, replies)
	}
	fabricIs(t, what, got, slowFabric(f))
	return got, gotReplies
}

// hearsNothing wants that an answer is passed over.
func hearsNothing(t *testing.T, what string, f impl.Fabric, port int, number int, unit int, a impl.Resp) {
	t.Helper()
	if got, replies := hearsFabric(t, what, f, port, number, unit, a); !equalFabric(got, f) || len(replies) != 0 {
		t.Errorf("%s: port %d, number %d, unit %d, %v changes %v to %v, %v", what, port, number, unit, a, f, got, replies)
	}
}

// swapsTo wants of FabricSwap what the chapter's words tell, and that it is this.
func swapsTo(t *testing.T, what string, f impl.Fabric, rules []impl.Rule, ok bool) impl.Fabric {
	t.Helper()
	want, slow := slowSwap(f, rules)
	if slow != ok {
		t.Fatalf("%s: as worded, FabricSwap of %v and %v is %v", what, f, rules, slow)
	}
	got, gotOk := impl.FabricSwap(f, rules)
	if !equalFabric(got, want) || gotOk != ok {
		t.Errorf("%s: FabricSwap of %v and %v is %v, %v, not %v, %v", what, f, rules, got, gotOk, want, ok)
	}
	fabricIs(t, what, got, slowFabric(f))
	return got
}

// A fabric that is not right is left as it is by all that is done to it.
func leavesFabric(t *testing.T, what string, f impl.Fabric) {
	t.Helper()
	fabricIs(t, what, f, false)
	if got := impl.Load(f); got != 0 {
		t.Errorf("%s: Load of %v is %d", what, f, got)
	}
	same := func(name string, got impl.Fabric, told int) {
		t.Helper()
		if !equalFabric(got, f) || told != 0 {
			t.Errorf("%s: %s of %v is %v, with %d things told", what, name, f, got, told)
		}
	}
	for _, unit := range []int{9, 8} {
		asked, replies := impl.FabricAsk(f, 1, 2, unit, askAt(3, 0, 1))
		same("FabricAsk", asked, len(replies))
	}
	ticked, sent, replies := impl.FabricTick(f)
	same("FabricTick", ticked, len(sent)+len(replies))
	for port, l := range f.Lines {
		heard, replies := impl.FabricHear(f, port, l.Number, l.Call.Unit, fitting(l.Call.Req))
		same("FabricHear", heard, len(replies))
	}
	swapped, ok := impl.FabricSwap(f, rulesFrom(3))
	same("FabricSwap", swapped, 0)
	if ok {
		t.Errorf("%s: the rules of %v are swapped", what, f)
	}
}

// holding gives a right fabric in which x is open: each part that was not told has a call at its line, in the order of x;
// at the ports whose bit is in asked the first one is asked. Wait and Tries of its lines are not those of Set.
func holding(x impl.Table, asked int) impl.Fabric {
	f := impl.Fabric{Now: 500, Set: impl.Config{Wait: 40, Tries: 1, Rules: cutRules([]int{0, 1, 2, 3}, 60, 10, mixedShift)}, Open: x, Asked: 90, Replied: 40, Faults: 7, Sent: 300}
	for port := range 6 {
		l := impl.Line{Next: 11 * port, Wait: 2 + port, Tries: port}
		for _, p := range x.List {
			for i, part := range p.Parts {
				if !p.Has[i] && part.Port == port {
					l.Queue = append(l.Queue, impl.Call{Id: p.Id, Part: i, Unit: part.Unit, Req: part.Req})
				}
			}
		}
		if asked>>port&1 == 1 && len(l.Queue) > 0 {
			l.Busy, l.Call, l.Queue = true, l.Queue[0], l.Queue[1:]
			l.Number, l.Due, l.Left = 11*port+700, 501+port%3, port/2
		}
		f.Lines = append(f.Lines, l)
	}
	return f
}

// sampleFabrics gives right fabrics with none to 16 matters of every kind, of 1 to 8 parts, whose calls wait and are asked.
func sampleFabrics() []impl.Fabric {
	var list []impl.Fabric
	for i := range 12 {
		for _, n := range []int{0, 1, 3, 15, 16} {
			list = append(list, holding(tableOf(i, n), i*7%64), holding(tableOf(i, n), 63))
		}
	}
	return list
}

func TestFabricNewOfRightSettings(t *testing.T) {
	for _, c := range rightConfigs() {
		f := impl.FabricNew(c)
		want := impl.Fabric{Set: c, Lines: slices.Repeat([]impl.Line{{Wait: c.Wait, Tries: c.Tries}}, 6)}
		if !equalFabric(f, want) {
			t.Errorf("FabricNew of %v is %v", c, f)
		}
		fabricIs(t, "new", f, true)
		if impl.Load(f) != 0 {
			t.Errorf("Load of a new fabric is %d", impl.Load(f))
		}
		g, sent, replies := ticksFabric(t, "new", f)
		want.Now = 1
		if !equalFabric(g, want) || len(sent) != 0 || len(replies) != 0 {
			t.Errorf("a new fabric ticks to %v, %v, %v", g, sent, replies)
		}
	}
}

func TestFabricNewOfSettingsThatAreNotRight(t *testing.T) {
	list := []impl.Config{{}, {Wait: 0, Tries: 1}, {Wait: 101, Tries: 1}, {Wait: -1}, {Wait: 1, Tries: -1}, {Wait: 1, Tries: 6}, {Rules: rulesFrom(3)}}
	for _, l := range wrongRules() {
		list = append(list, impl.Config{Wait: 3, Tries: 1, Rules: l})
	}
	for _, n := range farNumbers {
		list = append(list, impl.Config{Wait: n, Tries: 1}, impl.Config{Wait: 1, Tries: n})
	}
	for _, c := range list {
		f := impl.FabricNew(c)
		if !equalFabric(f, impl.Fabric{}) {
			t.Errorf("FabricNew of %v is %v", c, f)
		}
		leavesFabric(t, "not right", f)
	}
}

func TestFabricOkOfRightFabrics(t *testing.T) {
	for _, f := range sampleFabrics() {
		fabricIs(t, "a sample", f, true)
	}
}

// A fabricEdit makes a fabric one at an end of what is right, or beyond it.
type fabricEdit struct {
	what  string
	edit  func(*impl.Fabric)
	right bool
}

// numbersOf gives an edit of a field for each of these numbers, of which those are right that isRight tells.
func numbersOf(what string, field func(*impl.Fabric) *int, isRight func(int) bool, numbers ...int) (list []fabricEdit) {
	for _, n := range numbers {
		list = append(list, fabricEdit{fmt.Sprint(what, " ", n), func(f *impl.Fabric) { *field(f) = n }, isRight(n)})
	}
	return list
}

// fieldEdits gives edits of the tick and of the counts.
func fieldEdits() []fabricEdit {
	isCount := func(n int) bool { return n >= 0 && n <= mostCount }
	isTick := func(n int) bool { return n >= 0 && n <= lastTick }
	list := numbersOf("Now", func(f *impl.Fabric) *int { return &f.Now }, isTick, slices.Concat(edgeTicks, noTicks)...)
	counts := append([]int{-2, -1, 0, 1, 999999999, mostCount, mostCount + 1, mostCount + 2, 1 << 31}, farNumbers...)
	for what, field := range map[string]func(*impl.Fabric) *int{
		"Asked":   func(f *impl.Fabric) *int { return &f.Asked },
		"Replied": func(f *impl.Fabric) *int { return &f.Replied },
		"Faults":  func(f *impl.Fabric) *int { return &f.Faults },
		"Sent":    func(f *impl.Fabric) *int { return &f.Sent },
	} {
		list = append(list, numbersOf(what, field, isCount, counts...)...)
	}
	return list
}

// wholeEdits gives edits of the settings, of the table, of how many lines there are and of one line.
func wholeEdits() []fabricEdit {
	list := []fabricEdit{
		{"Wait 0 of Set", func(f *impl.Fabric) { f.Set.Wait = 0 }, false},
		{"Wait 101 of Set", func(f *impl.Fabric) { f.Set.Wait = 101 }, false},
		{"Wait 100 of Set", func(f *impl.Fabric) { f.Set.Wait = 100 }, true},
		{"Tries 6 of Set", func(f *impl.Fabric) { f.Set.Tries = 6 }, false},
		{"Tries 5 of Set", func(f *impl.Fabric) { f.Set.Tries = 5 }, true},
		{"no rules", func(f *impl.Fabric) { f.Set.Rules = nil }, true},
		{"other rules", func(f *impl.Fabric) { f.Set.Rules = rulesFrom(24) }, true},
		{"no settings", func(f *impl.Fabric) { f.Set = impl.Config{} }, false},
		{"Next of Open below an Id", func(f *impl.Fabric) { f.Open.Next = 20 }, false},
		{"Next of Open is the last", func(f *impl.Fabric) { f.Open.Next = mostId }, true},
		{"Next of Open is more", func(f *impl.Fabric) { f.Open.Next = mostId + 1 }, false},
		{"matters in another order", func(f *impl.Fabric) { slices.Reverse(f.Open.List) }, false},
		{"a source below 0", func(f *impl.Fabric) { f.Open.List[0].Source = -1 }, false},
		{"a tag beyond", func(f *impl.Fabric) { f.Open.List[1].Tag = mostId + 1 }, false},
		{"two of one tag", func(f *impl.Fabric) { f.Open.List[1].Tag = f.Open.List[0].Tag }, true},
		{"a question that is not right", func(f *impl.Fabric) { f.Open.List[1].Req.N = 126 }, false},
		{"marked, and not told", func(f *impl.Fabric) { f.Open.List[0].Has[1] = true; f.Lines[1].Queue = nil }, false},
		{"no lines", func(f *impl.Fabric) { f.Lines = nil }, false},
		{"five lines", func(f *impl.Fabric) { f.Lines = f.Lines[:5] }, false},
		{"seven lines", func(f *impl.Fabric) { f.Lines = append(f.Lines, impl.LineNew(3, 1)) }, false},
		{"seven lines, the last one zero", func(f *impl.Fabric) { f.Lines = append(f.Lines, impl.Line{}) }, false},
		{"twelve lines", func(f *impl.Fabric) { f.Lines = append(f.Lines, slices.Repeat([]impl.Line{{Wait: 3}}, 6)...) }, false},
		{"a line too many behind the length", func(f *impl.Fabric) { f.Lines = append(f.Lines, impl.Line{Wait: -1})[:6] }, true},
	}
	for _, l := range wrongRules() {
		list = append(list, fabricEdit{"wrong rules", func(f *impl.Fabric) { f.Set.Rules = l }, false})
	}
	for port := range 6 {
		list = append(list, lineEdits(port)...)
	}
	return list
}

// lineEdits gives edits of one line that leave its calls.
func lineEdits(port int) (list []fabricEdit) {
	for what, k := range map[string]struct {
		edit  func(*impl.Line)
		right bool
	}{
		"Wait 0":      {func(l *impl.Line) { l.Wait = 0 }, false},
		"Wait 101":    {func(l *impl.Line) { l.Wait = 101 }, false},
		"Wait 77":     {func(l *impl.Line) { l.Wait = 77 }, true},
		"Tries -1":    {func(l *impl.Line) { l.Tries = -1 }, false},
		"Tries 6":     {func(l *impl.Line) { l.Tries = 6 }, false},
		"Tries 5":     {func(l *impl.Line) { l.Tries = 5 }, true},
		"Next 65535":  {func(l *impl.Line) { l.Next = 65535 }, true},
		"Next 65536":  {func(l *impl.Line) { l.Next = 65536 }, false},
		"Number":      {func(l *impl.Line) { l.Number = 65536 }, false},
		"Due":         {func(l *impl.Line) { l.Due = lastTick + 1 }, false},
		"Left":        {func(l *impl.Line) { l.Left = l.Tries + 1 }, false},
		"Left, below": {func(l *impl.Line) { l.Left = -1 }, false},
	} {
		list = append(list, fabricEdit{fmt.Sprint(what, " of line ", port), func(f *impl.Fabric) { k.edit(&f.Lines[port]) }, k.right})
	}
	return list
}

// plainFabric gives a right fabric: three matters, of which the second has two parts that are the same and one at another
// port, and the first one's second part was told; line 0 asks, line 1 has calls that wait, line 5 has none.
func plainFabric() impl.Fabric {
	words := impl.Req{Kind: 16, At: 4, Words: []int{7, 8}}
	bits := impl.Req{Kind: 15, At: 6, Bits: []bool{true, false, true}}
	reads := impl.Req{Kind: 3, At: 30, N: 2}
	first := impl.Pend{Id: 3, Source: 1, Tag: 5, Unit: 9, Req: impl.Req{Kind: 16, At: 4, Words: []int{7, 8, 1, 2, 7, 8}},
		Parts: []impl.Part{{Port: 0, Unit: 20, Req: words}, {Port: 1, Unit: 21, Req: words}, {Port: 2, Unit: 22, Req: words}},
		Has:   []bool{false, true, false}, Told: []impl.Resp{{}, fitting(words), {}}}
	second := impl.Pend{Id: 8, Source: 2, Tag: 6, Unit: 9, Req: impl.Req{Kind: 3, At: 30, N: 6},
		Parts: []impl.Part{{Port: 1, Unit: 30, Req: reads}, {Port: 1, Unit: 30, Req: reads}, {Port: 0, Unit: 30, Req: reads}},
		Has:   make([]bool, 3), Told: make([]impl.Resp, 3)}
	third := impl.Pend{Id: 20, Source: 3, Tag: 7, Unit: 9, Req: bits, Parts: []impl.Part{{Port: 1, Unit: 40, Req: bits}}, Has: make([]bool, 1), Told: make([]impl.Resp, 1)}
	return cloneFabric(holding(impl.Table{Next: 25, List: []impl.Pend{first, second, third}}, 1))
}

// onCall gives an edit of what is asked at line 0, and of the last call that waits at line 1.
func onCall(what string, edit func(*impl.Call)) []fabricEdit {
	return []fabricEdit{
		{what + ", asked", func(f *impl.Fabric) { edit(&f.Lines[0].Call) }, false},
		{what + ", waiting", func(f *impl.Fabric) { edit(&f.Lines[1].Queue[2]) }, false},
	}
}

// partEdits gives edits by which a call is of another part than its own, of none, or of one that does not fit it.
func partEdits() []fabricEdit {
	return slices.Concat(
		onCall("a matter that is not open", func(c *impl.Call) { c.Id = 4 }),
		onCall("a matter that was never open", func(c *impl.Call) { c.Id = 25 }),
		onCall("a matter beyond", func(c *impl.Call) { c.Id = mostId }),
		onCall("another matter", func(c *impl.Call) { c.Id = 8 }),
		onCall("a part that was told", func(c *impl.Call) { c.Id, c.Part = 3, 1 }),
		onCall("a part that was told, with its Unit", func(c *impl.Call) {
			*c = impl.Call{Id: 3, Part: 1, Unit: 21, Req: impl.Req{Kind: 16, At: 4, Words: []int{7, 8}}}
		}),
		onCall("a part that is not there", func(c *impl.Call) { c.Part = 3 }),
		onCall("the last part there may be", func(c *impl.Call) { c.Part = 7 }),
		onCall("a part beyond", func(c *impl.Call) { c.Part = 8 }),
		onCall("a part below", func(c *impl.Call) { c.Part = -1 }),
		onCall("another part", func(c *impl.Call) { c.Part = 2 }),
		onCall("another Unit", func(c *impl.Call) { c.Unit++ }),
		onCall("a Unit of another call", func(c *impl.Call) { c.Unit = 22 }),
		onCall("another Kind", func(c *impl.Call) { c.Req = askAt(3, c.Req.At, 2) }),
		onCall("another At", func(c *impl.Call) { c.Req.At++ }),
		onCall("other words or bits", func(c *impl.Call) { c.Req = askAt(c.Req.Kind, c.Req.At, len(c.Req.Words)+len(c.Req.Bits)) }),
		onCall("one more", func(c *impl.Call) { c.Req = askAt(c.Req.Kind, c.Req.At, 4) }),
		onCall("no question", func(c *impl.Call) { c.Req = impl.Req{} }),
		[]fabricEdit{
			{"another N", func(f *impl.Fabric) { f.Lines[1].Queue[0].Req.N = 3 }, false},
			{"a part of another Unit", func(f *impl.Fabric) { f.Open.List[1].Parts[0].Unit = 31 }, false},
			{"a part of another Port", func(f *impl.Fabric) { f.Open.List[1].Parts[0].Port = 2 }, false},
			{"a part of another question", func(f *impl.Fabric) { f.Open.List[2].Parts[0].Req.Bits[2] = false }, false},
			{"a call and its part with another Unit", func(f *impl.Fabric) { f.Open.List[1].Parts[0].Unit, f.Lines[1].Queue[0].Unit = 31, 31 }, true},
		})
}

// shift gives an edit that moves the first call that waits at a line to the end of another.
func shift(from int, to int) func(*impl.Fabric) {
	return func(f *impl.Fabric) {
		c := f.Lines[from].Queue[0]
		f.Lines[from].Queue = f.Lines[from].Queue[1:]
		f.Lines[to].Queue = append(f.Lines[to].Queue, c)
	}
}

// countEdits gives edits by which a part has no call, or two.
func countEdits() []fabricEdit {
	list := []fabricEdit{
		{"nothing", func(*impl.Fabric) {}, true},
		{"calls in another order", func(f *impl.Fabric) { slices.Reverse(f.Lines[1].Queue) }, true},
		{"the other one is asked", func(f *impl.Fabric) { l := &f.Lines[0]; l.Call, l.Queue[0] = l.Queue[0], l.Call }, true},
		{"none is asked", func(f *impl.Fabric) {
			f.Lines[0] = impl.Line{Queue: callsAt(f.Lines[0]), Wait: 3}
		}, true},
		{"the first of two that are the same, twice", func(f *impl.Fabric) { f.Lines[1].Queue[1].Part = 0 }, false},
		{"the second of two that are the same, twice", func(f *impl.Fabric) { f.Lines[1].Queue[0].Part = 1 }, false},
		{"two that are the same, the other way round", func(f *impl.Fabric) { q := f.Lines[1].Queue; q[0].Part, q[1].Part = 1, 0 }, true},
		{"what is asked waits, too", func(f *impl.Fabric) { f.Lines[0].Queue = append(f.Lines[0].Queue, f.Lines[0].Call) }, false},
		{"what is asked waits in place of another", func(f *impl.Fabric) { f.Lines[0].Queue[0] = f.Lines[0].Call }, false},
		{"what is asked waits elsewhere, too", func(f *impl.Fabric) { f.Lines[5].Queue = append(f.Lines[5].Queue, f.Lines[0].Call) }, false},
		{"what is asked is gone", func(f *impl.Fabric) { f.Lines[0] = impl.Line{Queue: f.Lines[0].Queue, Wait: 3} }, false},
		{"the last call is gone", func(f *impl.Fabric) { f.Lines[1].Queue = f.Lines[1].Queue[:2] }, false},
		{"the first call is gone", func(f *impl.Fabric) { f.Lines[1].Queue = f.Lines[1].Queue[1:] }, false},
		{"all calls are gone", func(f *impl.Fabric) { f.Lines = slices.Repeat([]impl.Line{impl.LineNew(3, 2)}, 6) }, false},
		{"nothing is open", func(f *impl.Fabric) { f.Open.List = nil }, false},
		{"nothing is open, nothing is called", func(f *impl.Fabric) {
			f.Open.List, f.Lines = nil, slices.Repeat([]impl.Line{impl.LineNew(3, 2)}, 6)
		}, true},
		{"a matter is gone", func(f *impl.Fabric) { f.Open.List = f.Open.List[:2] }, false},
		{"a matter is gone, and its call", func(f *impl.Fabric) { f.Open.List, f.Lines[1].Queue = f.Open.List[:2], f.Lines[1].Queue[:2] }, true},
		{"one more matter", func(f *impl.Fabric) {
			p := clonePend(f.Open.List[2])
			p.Id = 24
			f.Open.List = append(f.Open.List, p)
		}, false},
		{"a part was told, and has a call", func(f *impl.Fabric) {
			p := f.Open.List[1]
			p.Has[0], p.Told[0] = true, fitting(p.Parts[0].Req)
		}, false},
		{"a part was told, and has none", func(f *impl.Fabric) {
			p := f.Open.List[1]
			p.Has[0], p.Told[0], f.Lines[1].Queue = true, fitting(p.Parts[0].Req), f.Lines[1].Queue[1:]
		}, true},
		{"a part was told no longer", func(f *impl.Fabric) { p := f.Open.List[0]; p.Has[1], p.Told[1] = false, impl.Resp{} }, false},
		{"empty lists", func(f *impl.Fabric) {
			f.Open.List[2].Parts[0].Req.Words, f.Lines[1].Queue[0].Req.Bits, f.Lines[5].Queue = []int{}, []bool{}, []impl.Call{}
		}, true},
		{"calls behind the length", func(f *impl.Fabric) { f.Lines[5].Queue = []impl.Call{{Id: 8, Unit: 1}, {}}[:0] }, true},
	}
	for port := range 6 {
		c := callsAt(plainFabric().Lines[1])[0]
		list = append(list, fabricEdit{fmt.Sprint("a call twice, at line ", port), func(f *impl.Fabric) { f.Lines[port].Queue = append(f.Lines[port].Queue, c) }, false})
		if port != 1 {
			list = append(list, fabricEdit{fmt.Sprint("a call is at line ", port), shift(1, port), false})
		}
	}
	return list
}

func TestFabricOkSentenceBySentence(t *testing.T) {
	fabricIs(t, "plain", plainFabric(), true)
	for _, k := range slices.Concat(fieldEdits(), wholeEdits(), partEdits(), countEdits()) {
		f := plainFabric()
		k.edit(&f)
		if k.right {
			fabricIs(t, k.what, f, true)
		} else {
			leavesFabric(t, k.what, f)
		}
	}
}

// Each call of each line, and each part of each matter, is looked at.
func TestEachCallAndEachPartCounts(t *testing.T) {
	for _, plain := range sampleFabrics() {
		for port, l := range plain.Lines {
			for i := range l.Queue {
				f := cloneFabric(plain)
				f.Lines[port].Queue[i].Unit = l.Queue[i].Unit%247 + 1
				fabricIs(t, "another Unit", f, false)
				f = cloneFabric(plain)
				f.Lines[port].Queue = slices.Delete(f.Lines[port].Queue, i, i+1)
				fabricIs(t, "a call less", f, false)
			}
			if l.Busy {
				f := cloneFabric(plain)
				f.Lines[port] = slowFree(l)
				fabricIs(t, "nothing asked", f, false)
			}
		}
		for i, p := range plain.Open.List {
			for j := range p.Parts {
				f := cloneFabric(plain)
				f.Open.List[i].Has[j], f.Open.List[i].Told[j] = !p.Has[j], impl.Resp{}
				if !p.Has[j] {
					f.Open.List[i].Told[j] = fitting(p.Parts[j].Req)
				}
				fabricIs(t, "told or not", f, false)
			}
		}
	}
}

// ruled gives a new fabric with these rules.
func ruled(rules ...impl.Rule) impl.Fabric {
	return impl.FabricNew(impl.Config{Wait: 3, Tries: 1, Rules: rules})
}

// refusedAsk wants that a question is neither counted nor told of.
func refusedAsk(t *testing.T, what string, f impl.Fabric, source int, tag int, unit int, q impl.Req) {
	t.Helper()
	if got, replies := asksTo(t, what, f, source, tag, unit, q); !equalFabric(got, f) || len(replies) != 0 {
		t.Errorf("%s: %d, %d, %v of %v is %v, %v", what, source, tag, q, f, got, replies)
	}
}

// faultAsked wants that a question is told this fault at once, and changes counts alone.
func faultAsked(t *testing.T, what string, f impl.Fabric, unit int, q impl.Req, fault int) {
	t.Helper()
	got, replies := asksTo(t, what, f, 4, 77, unit, q)
	want := f
	want.Asked, want.Replied, want.Faults = f.Asked+1, f.Replied+1, f.Faults+1
	told := []impl.Reply{{Source: 4, Tag: 77, Req: q, Resp: impl.Resp{Kind: q.Kind, Fault: fault}}}
	if !equalFabric(got, want) || !equalReplies(replies, told) {
		t.Errorf("%s: %v of %v is %v, %v, not the fault %d", what, q, f, got, replies, fault)
	}
}

// openAsked wants that a question is open then, one more counted and nothing told.
func openAsked(t *testing.T, what string, f impl.Fabric, unit int, q impl.Req) impl.Fabric {
	t.Helper()
	got, replies := asksTo(t, what, f, 4, 77, unit, q)
	if len(replies) != 0 || len(got.Open.List) != len(f.Open.List)+1 || got.Asked != f.Asked+1 || got.Replied != f.Replied || got.Faults != f.Faults {
		t.Errorf("%s: %v of %v is %v, %v", what, q, f, got, replies)
	}
	return got
}

func TestAskKnown(t *testing.T) {
	f := ruled(ruleOf(2, 0, 9, 4, 50, 0), ruleOf(2, 10, 19, 1, 60, -10), ruleOf(2, 20, 29, 4, 70, 100))
	q := impl.Req{Kind: 16, At: 9, Words: []int{1, 2, 3, 4, 5, 6, 7, 8, 9, 10, 11, 12, 13}}
	parts := []impl.Part{
		{Port: 4, Unit: 50, Req: impl.Req{Kind: 16, At: 9, Words: []int{1}}},
		{Port: 1, Unit: 60, Req: impl.Req{Kind: 16, At: 0, Words: []int{2, 3, 4, 5, 6, 7, 8, 9, 10, 11}}},
		{Port: 4, Unit: 70, Req: impl.Req{Kind: 16, At: 120, Words: []int{12, 13}}},
	}
	want := cloneFabric(f)
	for i := range 2 {
		got, replies := impl.FabricAsk(f, 7, 300+i, 9, q)
		want.Asked, want.Open.Next = i+1, i+1
		want.Open.List = append(want.Open.List, impl.Pend{Id: i, Source: 7, Tag: 300 + i, Unit: 9, Req: q, Parts: parts, Has: make([]bool, 3), Told: make([]impl.Resp, 3)})
		want.Lines[4].Queue = append(want.Lines[4].Queue, impl.Call{Id: i, Part: 0, Unit: 50, Req: parts[0].Req}, impl.Call{Id: i, Part: 2, Unit: 70, Req: parts[2].Req})
		want.Lines[1].Queue = append(want.Lines[1].Queue, impl.Call{Id: i, Part: 1, Unit: 60, Req: parts[1].Req})
		if !equalFabric(got, want) || len(replies) != 0 || impl.Load(got) != 3*(i+1) {
			t.Errorf("asked: %v, %v, not %v", got, replies, want)
		}
		f = got
	}
}

func TestSourcesAndTagsAtTheirEnds(t *testing.T) {
	fabrics := []impl.Fabric{ruled(ruleOf(2, 0, 99, 4, 50, 0)), plainFabric(), holding(tableOf(3, 16), 63)}
	right, wrong := []int{0, 1, 999999999, mostId}, append([]int{-1, -2, mostId + 1, mostId + 2, 1 << 31}, farNumbers...)
	wrong = slices.DeleteFunc(wrong, func(n int) bool { return n >= 0 && n <= mostId })
	for _, f := range fabrics {
		for _, a := range right {
			for _, b := range right {
				for _, unit := range []int{9, 8} {
					got, replies := asksTo(t, "ends", f, a, b, unit, askAt(3, 3, 2))
					if got.Asked != f.Asked+1 || len(replies) > 0 && (replies[0].Source != a || replies[0].Tag != b) {
						t.Errorf("%d, %d: %v, %v", a, b, got, replies)
					}
				}
			}
			for _, n := range wrong {
				for _, unit := range []int{9, 8, -1} {
					refusedAsk(t, "no source", f, n, a, unit, askAt(3, 3, 2))
					refusedAsk(t, "no tag", f, a, n, unit, askAt(3, 3, 2))
				}
				refusedAsk(t, "neither", f, n, n, 9, askAt(3, 3, 2))
			}
		}
	}
}

func TestAskOfWhatIsNoQuestion(t *testing.T) {
	for _, f := range []impl.Fabric{ruled(), ruled(ruleOf(2, 0, 99, 4, 50, 0)), plainFabric(), holding(tableOf(3, 16), 63)} {
		for _, q := range wrongQuestions() {
			for _, unit := range []int{9, 8, -1} {
				refusedAsk(t, "no question", f, 1, 2, unit, q)
			}
		}
	}
}

func TestAskOfAFabricThatIsNotRight(t *testing.T) {
	for _, edit := range []func(*impl.Fabric){
		func(f *impl.Fabric) { f.Asked = -1 },
		func(f *impl.Fabric) { f.Lines = f.Lines[:5] },
		func(f *impl.Fabric) { f.Lines[1].Queue = f.Lines[1].Queue[1:] },
		func(f *impl.Fabric) { f.Set.Wait = 0 },
	} {
		f := plainFabric()
		edit(&f)
		for _, unit := range []int{9, 8} {
			refusedAsk(t, "not right", f, 1, 2, unit, askAt(3, 3, 2))
			refusedAsk(t, "not right", f, -1, 2, unit, askAt(3, 3, 2))
		}
	}
	refusedAsk(t, "zero", impl.Fabric{}, 1, 2, 9, askAt(3, 3, 2))
}

func TestEachFaultOfPartsIsToldAtOnce(t *testing.T) {
	right := faultRules()
	for _, f := range []impl.Fabric{ruled(right...), holding(tableOf(4, 5), 63), holding(tableOf(4, 16), 63), holding(impl.Table{Next: mostId}, 0)} {
		f.Set.Rules = right
		for _, k := range []struct {
			what  string
			unit  int
			q     impl.Req
			fault int
		}{
			{"the unit", 8, impl.Req{Kind: 3, N: 1}, impl.FaultPath},
			{"the unit and a place", 8, impl.Req{Kind: 3, At: 9, N: 1}, impl.FaultPath},
			{"the unit and too many", 8, impl.Req{Kind: 3, N: 9}, impl.FaultPath},
			{"a place", 9, impl.Req{Kind: 3, At: 9, N: 1}, impl.FaultAt},
			{"a place and too many", 9, impl.Req{Kind: 3, N: 10}, impl.FaultAt},
			{"another space", 9, impl.Req{Kind: 4, N: 1}, impl.FaultAt},
			{"a ReadWrite of two rules", 9, bothAt(10, 2, 0, 1), impl.FaultAt},
			{"too many", 9, impl.Req{Kind: 3, N: 9}, impl.FaultValue},
			{"too many words to write", 9, impl.Req{Kind: 16, Words: make([]int, 9)}, impl.FaultValue},
		} {
			faultAsked(t, k.what, f, k.unit, k.q, k.fault)
		}
		for _, unit := range append([]int{-1, 0, 1, 8, 10, 247, 248}, farNumbers...) {
			faultAsked(t, "no path", f, unit, impl.Req{Kind: 3, N: 1}, impl.FaultPath)
		}
		f.Set.Rules = nil
		for _, k := range askKinds {
			faultAsked(t, "no rules", f, 9, askAt(k.kind, 0, 1), impl.FaultPath)
		}
	}
}

func TestSixteenOpenAndOneMore(t *testing.T) {
	for i := range 10 {
		for n := 13; n <= mostOpen; n++ {
			for _, asked := range []int{0, 63, 21} {
				f := holding(tableOf(i, n), asked)
				q := askAt(askKinds[i].kind, 2, 1)
				if n < mostOpen {
					openAsked(t, "room", f, 9, q)
				} else {
					faultAsked(t, "full", f, 9, q, impl.FaultBusy)
				}
			}
		}
	}
}

func TestTheLastIdAndNoneLeft(t *testing.T) {
	for i, k := range askKinds {
		q := askAt(k.kind, 8, min(k.most, 9))
		if k.kind == 23 {
			q = bothAt(1, 2, 3, 2)
		}
		f := holding(impl.Table{Next: mostId - 2}, 0)
		f = openAsked(t, "the last but one", f, 9, q)
		f = openAsked(t, "the last Id", f, 9, q)
		if f.Open.Next != mostId || f.Open.List[1].Id != mostId-1 {
			t.Errorf("the last Id is %d, Next %d", f.Open.List[1].Id, f.Open.Next)
		}
		faultAsked(t, "no Id is left", f, 9, q, impl.FaultBusy)
		faultAsked(t, "no Id is left", holding(impl.Table{Next: mostId}, 0), 9, q, impl.FaultBusy)
		// it stays so when all were replied to
		for range 200 {
			f, _, _ = ticksFabric(t, "the last Ids", f)
		}
		if len(f.Open.List) != 0 {
			t.Errorf("%d: open are %v", i, f.Open.List)
		}
		faultAsked(t, "no Id is left", f, 9, q, impl.FaultBusy)
	}
}

// waitingAt gives a right fabric with so many calls that wait at each line, and one that is asked at those whose bit is in
// asked; each call is of a part of its own.
func waitingAt(asked int, waiting ...int) impl.Fabric {
	x := impl.Table{Next: 16}
	var parts []impl.Part
	for port, n := range waiting {
		for i := range n + asked>>port&1 {
			parts = append(parts, impl.Part{Port: port, Unit: 9, Req: impl.Req{Kind: 3, At: i, N: 1}})
		}
	}
	for list := range slices.Chunk(parts, 8) {
		x.List = append(x.List, impl.Pend{Id: len(x.List), Req: impl.Req{Kind: 3, N: len(list)}, Parts: list, Has: make([]bool, len(list)), Told: make([]impl.Resp, len(list))})
	}
	return holding(x, asked)
}

// oneLine gives rules that cut 24 words into single ones of devices at one port.
func oneLine(port int) []impl.Rule {
	l := cutRules([]int{2}, 24, 1, noShift)
	for i := range l {
		l[i].Port = port
	}
	return l
}

func TestFortyWaitAndOneMore(t *testing.T) {
	for port := range 6 {
		for n := 1; n <= 8; n++ {
			for before := 40 - n - 2; before <= 40; before++ {
				for _, asked := range []int{0, 1 << port} {
					waiting := make([]int, 6)
					waiting[port] = before
					f := waitingAt(asked, waiting...)
					f.Set.Rules = oneLine(port)
					if before+n > mostCalls {
						faultAsked(t, "no room", f, 9, impl.Req{Kind: 3, At: 5, N: n}, impl.FaultBusy)
						continue
					}
					got := openAsked(t, "room", f, 9, impl.Req{Kind: 3, At: 5, N: n})
					if len(got.Lines[port].Queue) != before+n || impl.Load(got) != before+n+asked>>port {
						t.Errorf("%d wait, and %d more: %d, of %d", before, n, len(got.Lines[port].Queue), impl.Load(got))
					}
				}
			}
		}
	}
}

// Where one of several lines has no room, nothing waits at the others either, be they ahead of it or behind.
func TestNoRoomAtOneOfSeveralLines(t *testing.T) {
	for port := range 6 {
		for _, asked := range []int{0, 63} {
			waiting := []int{3, 3, 3, 3, 3, 3}
			waiting[port] = 40
			f := waitingAt(asked, waiting...)
			f.Set.Rules = cutRules([]int{2}, 24, 1, noShift)
			for at := range 20 {
				for n := 1; n <= min(8, 24-at); n++ {
					q := impl.Req{Kind: 3, At: at, N: n}
					meets := slices.ContainsFunc(f.Set.Rules[at:at+n], func(r impl.Rule) bool { return r.Port == port })
					if meets {
						faultAsked(t, "no room", f, 9, q, impl.FaultBusy)
					} else {
						openAsked(t, "room elsewhere", f, 9, q)
					}
				}
			}
		}
	}
}

// Two parts at one line need room for two, though there is room for each alone.
func TestRoomForSomeOfTheParts(t *testing.T) {
	rules := cutRules([]int{2}, 8, 1, noShift)
	for i := range rules {
		rules[i].Port = i % 2
	}
	for _, k := range []struct {
		first, second, n int
		room             bool
	}{
		{36, 36, 8, true}, {37, 36, 8, false}, {36, 37, 8, false}, {36, 37, 7, true}, {37, 37, 7, false}, {37, 37, 6, true},
		{39, 39, 2, true}, {39, 39, 3, false}, {38, 39, 3, true}, {40, 39, 1, false}, {39, 40, 1, true}, {39, 40, 2, false},
	} {
		f := waitingAt(3, k.first, k.second)
		f.Set.Rules = rules
		q := impl.Req{Kind: 3, N: k.n}
		if k.room {
			openAsked(t, fmt.Sprint(k), f, 9, q)
		} else {
			faultAsked(t, fmt.Sprint(k), f, 9, q, impl.FaultBusy)
		}
	}
}

// The parts of a question stand at each line one behind the other, behind what waits there.
func TestPartsWaitOneBehindTheOther(t *testing.T) {
	for ports := 1; ports <= 6; ports++ {
		rules := cutRules([]int{2}, 8, 1, noShift)
		for i := range rules {
			rules[i].Port = i % ports
		}
		f := waitingAt(5, 2, 0, 1, 4)
		f.Set.Rules = rules
		got := openAsked(t, "parts", f, 9, impl.Req{Kind: 3, N: 8})
		for port, l := range got.Lines {
			var want []impl.Call
			for i := port; i < 8 && port < ports; i += ports {
				want = append(want, impl.Call{Id: 16, Part: i, Unit: 1 + 10*i, Req: impl.Req{Kind: 3, At: i, N: 1}})
			}
			if !slices.EqualFunc(l.Queue, append(slices.Clone(f.Lines[port].Queue), want...), equalCall) {
				t.Errorf("at line %d of %d waits %v", port, ports, l.Queue)
			}
		}
	}
}

// Behind the last tick comes 0, and what is due goes on there.
func TestFabricTicksGoRound(t *testing.T) {
	f := openAsked(t, "asked", ruled(ruleOf(2, 0, 99, 4, 50, 0)), 9, askAt(3, 3, 2))
	f.Now = lastTick - 2
	order := impl.Send{Port: 4, Order: impl.Order{Unit: 50, Req: askAt(3, 3, 2)}}
	for i, now := range []int{lastTick - 1, lastTick, 0, 1, 2, 3, 4, 5, 6} {
		g, sent, replies := ticksFabric(t, "round", f)
		wantSent, wantReplied := 0, 0
		switch i {
		case 0, 3:
			wantSent = 1
		case 6:
			wantReplied = 1
		}
		if g.Now != now || len(sent) != wantSent || len(replies) != wantReplied || g.Sent != f.Sent+wantSent {
			t.Errorf("at %d: %v, %v, %v", now, g, sent, replies)
		}
		if wantSent == 1 && !equalSends(sent, []impl.Send{order}) {
			t.Errorf("at %d %v is sent", now, sent)
		}
		f = g
	}
	for _, now := range edgeTicks {
		f := plainFabric()
		f.Now = now
		if g, _, _ := ticksFabric(t, "a tick", f); g.Now != later(now, 1) {
			t.Errorf("behind %d comes %d", now, g.Now)
		}
	}
}

func TestOrdersGoByPorts(t *testing.T) {
	f := plainFabric()
	f.Lines[0] = impl.Line{Queue: callsAt(f.Lines[0]), Next: 65535, Wait: 4, Tries: 2}
	got, sent, replies := ticksFabric(t, "orders", f)
	var want []impl.Send
	for port, number := range []int{65535, 11, 22} {
		c := f.Lines[port].Queue[0]
		want = append(want, impl.Send{Port: port, Order: impl.Order{Number: number, Unit: c.Unit, Req: c.Req}})
		wait := []int{4, 3, 4}[port]
		if l := got.Lines[port]; !l.Busy || l.Number != number || l.Next != (number+1)%65536 || l.Due != 501+wait || l.Left != f.Lines[port].Tries || len(l.Queue) != len(f.Lines[port].Queue)-1 {
			t.Errorf("line %d is %v then", port, l)
		}
	}
	if !equalSends(sent, want) || len(replies) != 0 || got.Sent != f.Sent+3 || got.Now != 501 || !equalTable(got.Open, f.Open) {
		t.Errorf("ticked: %v, %v, %v, not %v", got, sent, replies, want)
	}
}

// single gives a matter of parts at these ports, each of which reads one word.
func single(id int, ports ...int) impl.Pend {
	p := impl.Pend{Id: id, Source: 10 + id, Tag: 20 + id, Unit: 9, Req: impl.Req{Kind: 3, At: 5, N: len(ports)}, Has: make([]bool, len(ports)), Told: make([]impl.Resp, len(ports))}
	for i, port := range ports {
		p.Parts = append(p.Parts, impl.Part{Port: port, Unit: 30 + id, Req: impl.Req{Kind: 3, At: 10*id + i, N: 1}})
	}
	return p
}

// allAsk gives a fabric at the tick 500 with these matters, each line of which asks the first call it has and gives it up at the next tick.
func allAsk(list ...impl.Pend) impl.Fabric {
	f := holding(impl.Table{Next: 16, List: list}, 63)
	for port, l := range f.Lines {
		if l.Busy {
			f.Lines[port].Due, f.Lines[port].Left = 501, 0
		}
	}
	return f
}

// givenUp is the reply to a matter whose parts were told this.
func givenUp(p impl.Pend, fault int, told ...impl.Resp) impl.Reply {
	return impl.Reply{Source: p.Source, Tag: p.Tag, Req: p.Req, Parts: p.Parts, Told: told, Resp: impl.Resp{Kind: p.Req.Kind, Fault: fault}}
}

// What is done at one tick is replied to by Ports, not by Ids; a matter of several lines at the last of them.
func TestRepliesGoByPorts(t *testing.T) {
	gone := impl.Resp{Kind: 3, Fault: 11}
	low, high, both, left := single(1, 4), single(2, 1), single(3, 0, 3), single(4, 5, 5)
	f := allAsk(low, high, both, left)
	got, sent, replies := ticksFabric(t, "given up", f)
	want := []impl.Reply{givenUp(high, 11, gone), givenUp(both, 11, gone, gone), givenUp(low, 11, gone)}
	if !equalReplies(replies, want) {
		t.Errorf("replied %v, not %v", replies, want)
	}
	left.Has, left.Told = []bool{true, false}, []impl.Resp{gone, {}}
	if !equalTable(got.Open, impl.Table{Next: 16, List: []impl.Pend{left}}) || got.Replied != f.Replied+3 || got.Faults != f.Faults+3 {
		t.Errorf("left is %v", got)
	}
	// the line that gave up goes on at the same tick
	if !equalSends(sent, []impl.Send{{Port: 5, Order: impl.Order{Number: 55, Unit: 34, Req: left.Parts[1].Req}}}) || got.Sent != f.Sent+1 {
		t.Errorf("sent %v", sent)
	}
}

// A line that gives up tells FaultTarget of its part; the first fault of all parts is replied.
func TestALineThatGivesUp(t *testing.T) {
	for _, first := range []impl.Resp{{Kind: 3, Words: []int{9}}, {Kind: 3, Fault: 2}, {Kind: 3, Fault: 11}, {Kind: 3, Fault: 255}} {
		p := single(1, 2, 3)
		p.Has[0], p.Told[0] = true, first
		fault := first.Fault
		if fault == 0 {
			fault = 11
		}
		got, _, replies := ticksFabric(t, "given up", allAsk(p))
		if !equalReplies(replies, []impl.Reply{givenUp(p, fault, first, impl.Resp{Kind: 3, Fault: 11})}) || len(got.Open.List) != 0 || impl.Load(got) != 0 {
			t.Errorf("%v was told, then given up: %v, %v", first, got, replies)
		}
	}
}

// Each line asks so often, and so far apart, as its own Wait and Tries tell, not those of Set.
func TestWaitAndTriesOfALine(t *testing.T) {
	for wait := 1; wait <= 5; wait++ {
		for tries := range 6 {
			f := holding(impl.Table{Next: 2, List: []impl.Pend{single(1, 4)}}, 0)
			f.Lines[4].Wait, f.Lines[4].Tries = wait, tries
			for tick := range wait*(tries+1) + 3 {
				g, sent, replies := ticksFabric(t, "a line of its own", f)
				asked, ended := tick%wait == 0 && tick <= wait*tries, tick == wait*(tries+1)
				if asked != (len(sent) == 1) || ended != (len(replies) == 1) {
					t.Fatalf("wait %d, tries %d: %d ticks on %v is sent and %v replied", wait, tries, tick, sent, replies)
				}
				f = g
			}
			if f.Sent != 300+tries+1 {
				t.Errorf("wait %d, tries %d: %d were sent", wait, tries, f.Sent-300)
			}
		}
	}
}

func TestSampleFabricsTick(t *testing.T) {
	for _, f := range sampleFabrics() {
		replied := 0
		for range 1200 {
			g, _, replies := impl.FabricTick(f)
			if replied%7 == 0 {
				ticksFabric(t, "a sample", f)
			}
			replied += len(replies)
			f = g
			if len(f.Open.List) == 0 {
				break
			}
		}
		if len(f.Open.List) != 0 || impl.Load(f) != 0 {
			t.Fatalf("%v stays open", f)
		}
	}
}

func TestHearOfNoPort(t *testing.T) {
	for _, f := range sampleFabrics() {
		for _, port := range append([]int{-1, -2, -6, 6, 7, 8, 12}, farNumbers...) {
			for _, l := range f.Lines {
				hearsNothing(t, "no port", f, port, l.Number, l.Call.Unit, fitting(l.Call.Req))
			}
		}
	}
}

func TestHearOfAnotherNumberUnitOrAnswer(t *testing.T) {
	for _, f := range sampleFabrics()[:60] {
		for port, l := range f.Lines {
			a := fitting(l.Call.Req)
			for _, other := range append([]int{l.Number + 1, l.Number - 1, l.Number + 65536, l.Number - 65536, -1, l.Next}, farNumbers...) {
				if other != l.Number {
					hearsNothing(t, "another number", f, port, other, l.Call.Unit, a)
				}
			}
			for _, other := range append([]int{l.Call.Unit + 1, l.Call.Unit - 1, l.Call.Unit + 256, 0, -1, 248}, farNumbers...) {
				if other != l.Call.Unit {
					hearsNothing(t, "another unit", f, port, l.Number, other, a)
				}
			}
			for _, wrong := range notSuiting(l.Call.Req) {
				hearsNothing(t, "another answer", f, port, l.Number, l.Call.Unit, wrong)
			}
			for other, beside := range f.Lines {
				if other != port && (!beside.Busy || beside.Number != l.Number) {
					hearsNothing(t, "another port", f, other, l.Number, l.Call.Unit, a)
				}
			}
			for _, c := range l.Queue {
				if !l.Busy {
					hearsNothing(t, "what is not asked", f, port, 0, c.Unit, fitting(c.Req))
				}
			}
		}
	}
}

// The last part of a matter that is told, while others are open, is replied to, and leaves them.
func TestTheLastPartWhileOthersAreOpen(t *testing.T) {
	first, second, third := single(1, 0, 1), single(2, 2, 3), single(3, 4, 5)
	second.Has[0], second.Told[0] = true, impl.Resp{Kind: 3, Words: []int{500}}
	f := allAsk(first, second, third)
	got, replies := hearsFabric(t, "the last part", f, 3, 733, 32, impl.Resp{Kind: 3, Words: []int{600}})
	want := cloneFabric(f)
	want.Open.List, want.Replied = []impl.Pend{first, third}, f.Replied+1
	want.Lines[3] = slowFree(f.Lines[3])
	told := impl.Reply{Source: 12, Tag: 22, Req: second.Req, Parts: second.Parts, Told: []impl.Resp{second.Told[0], {Kind: 3, Words: []int{600}}}, Resp: impl.Resp{Kind: 3, Words: []int{500, 600}}}
	if !equalFabric(got, want) || !equalReplies(replies, []impl.Reply{told}) {
		t.Errorf("told: %v, %v, not %v, %v", got, replies, want, told)
	}
	hearsNothing(t, "twice", got, 3, 733, 32, impl.Resp{Kind: 3, Words: []int{600}})
	// a fault of its device is replied as a fault
	got, replies = hearsFabric(t, "a fault", f, 3, 733, 32, impl.Resp{Kind: 3, Fault: 4})
	if len(replies) != 1 || replies[0].Resp.Fault != 4 || got.Faults != f.Faults+1 || got.Replied != f.Replied+1 {
		t.Errorf("told a fault: %v, %v", got, replies)
	}
	// another matter has a part left: no reply
	got, replies = hearsFabric(t, "a part", f, 0, 700, 31, impl.Resp{Kind: 3, Words: []int{1}})
	if len(replies) != 0 || got.Replied != f.Replied || impl.Waiting(got.Open) != 4 || impl.Load(got) != 4 || len(got.Open.List) != 3 {
		t.Errorf("told a part: %v, %v", got, replies)
	}
}

func TestHearOfEverySample(t *testing.T) {
	for _, f := range sampleFabrics() {
		for port, l := range f.Lines {
			for _, a := range []impl.Resp{fitting(l.Call.Req), {Kind: l.Call.Req.Kind, Fault: 1}, {Kind: l.Call.Req.Kind, Fault: 255}} {
				got, replies := hearsFabric(t, "a sample", f, port, l.Number, l.Call.Unit, a)
				if l.Busy && impl.Load(got) != impl.Load(f)-1 || !l.Busy && (len(replies) != 0 || !equalFabric(got, f)) {
					t.Errorf("port %d of %v hears %v: %v, %v", port, f, a, got, replies)
				}
				hearsNothing(t, "twice", got, port, l.Number, l.Call.Unit, a)
			}
		}
	}
}

func TestSwapOfRules(t *testing.T) {
	for i, f := range sampleFabrics() {
		for n := range 25 {
			if (n+i)%5 == 0 {
				got := swapsTo(t, "right", f, rulesFrom(n), true)
				want := f
				want.Set.Rules = rulesFrom(n)
				if !equalFabric(got, want) {
					t.Errorf("swapped: %v", got)
				}
			}
		}
		for _, none := range [][]impl.Rule{nil, {}} {
			if got := swapsTo(t, "none", f, none, true); len(got.Set.Rules) != 0 || got.Set.Wait != 40 || got.Set.Tries != 1 {
				t.Errorf("swapped: %v", got.Set)
			}
		}
		for _, l := range wrongRules() {
			if got := swapsTo(t, "wrong", f, l, false); !equalFabric(got, f) {
				t.Errorf("swapped by %v: %v", l, got)
			}
		}
	}
}

func TestSwapOfAFabricThatIsNotRight(t *testing.T) {
	for _, k := range slices.Concat(fieldEdits(), wholeEdits(), partEdits(), countEdits()) {
		if f := plainFabric(); !k.right {
			k.edit(&f)
			for _, rules := range [][]impl.Rule{nil, rulesFrom(3), wrongRules()[0], f.Set.Rules} {
				swapsTo(t, k.what, f, rules, false)
			}
		}
	}
}

// What is asked behind a swap goes by the new rules, what is open by those it was asked under.
func TestAskBehindASwap(t *testing.T) {
	q := impl.Req{Kind: 3, At: 4, N: 2}
	f := openAsked(t, "old", ruled(ruleOf(2, 0, 9, 0, 50, 0)), 9, q)
	f = swapsTo(t, "new", f, []impl.Rule{ruleOf(2, 0, 4, 3, 60, 7), ruleOf(2, 5, 9, 5, 70, -5)}, true)
	f = openAsked(t, "new", f, 9, q)
	f = swapsTo(t, "another unit", f, []impl.Rule{{Unit: 8, Space: 2, Hi: 9, Port: 0, To: 80}}, true)
	faultAsked(t, "no longer", f, 9, q, impl.FaultPath)
	f = openAsked(t, "another unit", f, 8, q)
	f = swapsTo(t, "none", f, nil, true)
	faultAsked(t, "none", f, 8, q, impl.FaultPath)
	f = swapsTo(t, "a hole", f, []impl.Rule{ruleOf(2, 0, 4, 3, 60, 7)}, true)
	faultAsked(t, "a hole", f, 9, q, impl.FaultAt)
	_, sent, _ := ticksFabric(t, "all", f)
	if !equalSends(sent, []impl.Send{{Port: 0, Order: impl.Order{Unit: 50, Req: q}}, {Port: 3, Order: impl.Order{Unit: 60, Req: impl.Req{Kind: 3, At: 11, N: 1}}}, {Port: 5, Order: impl.Order{Unit: 70, Req: impl.Req{Kind: 3, N: 1}}}}) {
		t.Errorf("sent %v", sent)
	}
	f, _, _ = impl.FabricTick(f)
	for _, k := range []struct{ port, unit, words int }{{0, 50, 2}, {3, 60, 1}, {5, 70, 1}} {
		f, _ = hearsFabric(t, "told", f, k.port, 0, k.unit, impl.Resp{Kind: 3, Words: slices.Repeat([]int{k.unit}, k.words)})
	}
	f, sent, _ = ticksFabric(t, "the last", f)
	if !equalSends(sent, []impl.Send{{Port: 0, Order: impl.Order{Number: 1, Unit: 80, Req: q}}}) || impl.Load(f) != 1 || f.Replied != 0+2 {
		t.Errorf("then %v is sent of %v", sent, f)
	}
}

// With other rules, all that is open is sent and replied to as without.
func TestASwapChangesNothingThatIsOpen(t *testing.T) {
	for i, f := range sampleFabrics() {
		g, _ := impl.FabricSwap(f, rulesFrom(i%25))
		if !equalTable(g.Open, f.Open) || !slices.EqualFunc(g.Lines, f.Lines, equalLine) || impl.Load(g) != impl.Load(f) {
			t.Fatalf("a swap makes %v of %v", g, f)
		}
		for step := range 150 {
			var sent, gSent []impl.Send
			var replies, gReplies []impl.Reply
			port := step % 6
			if l := f.Lines[port]; step%5 == 0 && l.Busy {
				f, replies = impl.FabricHear(f, port, l.Number, l.Call.Unit, fitting(l.Call.Req))
				g, gReplies = impl.FabricHear(g, port, l.Number, l.Call.Unit, fitting(l.Call.Req))
			} else {
				f, sent, replies = impl.FabricTick(f)
				g, gSent, gReplies = impl.FabricTick(g)
			}
			if step%20 == 7 {
				g, _ = impl.FabricSwap(g, rulesFrom(step%25))
			}
			as := g
			as.Set = f.Set
			if !equalSends(sent, gSent) || !equalReplies(replies, gReplies) || !equalFabric(f, as) {
				t.Fatalf("with other rules: %v, %v, %v, not %v, %v, %v", g, gSent, gReplies, f, sent, replies)
			}
		}
	}
}

func TestLoadKnown(t *testing.T) {
	wrong := waitingAt(0, 1, 2)
	wrong.Sent = -1
	for _, k := range []struct {
		f    impl.Fabric
		want int
	}{
		{impl.Fabric{}, 0}, {ruled(), 0}, {ruled(rulesFrom(9)...), 0}, {wrong, 0}, {plainFabric(), 6},
		{waitingAt(0, 1), 1}, {waitingAt(1, 0), 1}, {waitingAt(1, 1), 2}, {waitingAt(0, 40), 40}, {waitingAt(1, 40), 41},
		{waitingAt(0, 1, 2, 3, 4, 5, 6), 21}, {waitingAt(63, 1, 2, 3, 4, 5, 6), 27}, {waitingAt(63, 0, 0, 0, 0, 0, 0), 6}, {waitingAt(34, 0, 0, 0, 0, 0, 0), 2},
		{waitingAt(0, 40, 40, 40), 120}, {waitingAt(7, 40, 40, 40), 123}, {waitingAt(32, 0, 0, 0, 0, 0, 3), 4},
	} {
		if got := impl.Load(k.f); got != k.want {
			t.Errorf("Load of %v is %d, not %d", k.f, got, k.want)
		}
	}
}

// counts is Asked, Replied, Faults and Sent.
func counts(f impl.Fabric) [4]int { return [4]int{f.Asked, f.Replied, f.Faults, f.Sent} }

// countsAre wants these counts.
func countsAre(t *testing.T, what string, f impl.Fabric, want ...int) {
	t.Helper()
	if got := counts(f); !slices.Equal(got[:], want) {
		t.Errorf("%s: the counts are %v, not %v", what, got, want)
	}
}

func TestWhatIsCounted(t *testing.T) {
	f := ruled(ruleOf(2, 0, 9, 0, 50, 0), ruleOf(2, 10, 19, 1, 60, -10))
	q := impl.Req{Kind: 3, At: 9, N: 2}
	f, _ = impl.FabricAsk(f, 0, 0, 9, q)
	countsAre(t, "open", f, 1, 0, 0, 0)
	f, _ = impl.FabricAsk(f, 0, 1, 8, q)
	countsAre(t, "no path", f, 2, 1, 1, 0)
	f, _ = impl.FabricAsk(f, -1, 1, 9, q)
	f, _ = impl.FabricAsk(f, 0, mostId+1, 9, q)
	f, _ = impl.FabricAsk(f, 0, 1, 9, impl.Req{})
	f, _ = impl.FabricSwap(f, f.Set.Rules)
	countsAre(t, "no question", f, 2, 1, 1, 0)
	f, _, _ = impl.FabricTick(f)
	countsAre(t, "sent", f, 2, 1, 1, 2)
	f, _, _ = impl.FabricTick(f)
	f, _ = impl.FabricHear(f, 0, 0, 50, impl.Resp{Kind: 3, Words: []int{1}})
	countsAre(t, "a part", f, 2, 1, 1, 2)
	f, _ = impl.FabricHear(f, 1, 0, 60, impl.Resp{Kind: 3, Words: []int{1}})
	countsAre(t, "told", f, 2, 2, 1, 2)
	f, _ = impl.FabricHear(f, 1, 0, 60, impl.Resp{Kind: 3, Words: []int{1}})
	countsAre(t, "twice", f, 2, 2, 1, 2)
	f, _ = impl.FabricAsk(f, 0, 2, 9, q)
	f, _, _ = impl.FabricTick(f)
	f, _ = impl.FabricHear(f, 0, 1, 50, impl.Resp{Kind: 3, Fault: 2})
	countsAre(t, "a part with a fault", f, 3, 2, 1, 4)
	for range 3 {
		f, _, _ = impl.FabricTick(f)
	}
	countsAre(t, "asked again", f, 3, 2, 1, 5)
	for range 3 {
		f, _, _ = impl.FabricTick(f)
	}
	countsAre(t, "given up", f, 3, 3, 2, 5)
}

// Where a count is 10^9, or would be more, it is that.
func TestCountsStandStillAtTheirMost(t *testing.T) {
	gone := single(2, 4)
	for less := range 8 {
		n := mostCount - less
		f := allAsk(single(1, 0, 1), gone, single(3, 2), single(4, 3), single(5, 5, 5))
		f.Asked, f.Replied, f.Faults, f.Sent = n, n, n, n
		ticked, sent, replies := ticksFabric(t, "ticked", f)
		if len(sent) != 1 || len(replies) != 4 {
			t.Fatalf("%v is sent, %v replied", sent, replies)
		}
		countsAre(t, "ticked", ticked, n, min(n+4, mostCount), min(n+4, mostCount), min(n+1, mostCount))
		opened := openOrFull(t, f, 9, impl.Req{Kind: 3, N: 1})
		countsAre(t, "asked", opened, min(n+1, mostCount), n, n, n)
		fault := openOrFull(t, f, 8, impl.Req{Kind: 3, N: 1})
		countsAre(t, "no path", fault, min(n+1, mostCount), min(n+1, mostCount), min(n+1, mostCount), n)
		told, _ := hearsFabric(t, "told", f, 4, 744, 32, impl.Resp{Kind: 3, Words: []int{1}})
		countsAre(t, "told", told, n, min(n+1, mostCount), n, n)
		told, _ = hearsFabric(t, "told a fault", f, 4, 744, 32, impl.Resp{Kind: 3, Fault: 1})
		countsAre(t, "told a fault", told, n, min(n+1, mostCount), min(n+1, mostCount), n)
		for _, six := range []impl.Fabric{waitingAt(0, 1, 1, 1, 1, 1, 1), waitingAt(0, 2, 2, 2, 2, 2, 2)} {
			six.Sent = n
			six, sent, _ = ticksFabric(t, "six", six)
			if len(sent) != 6 || six.Sent != min(n+6, mostCount) {
				t.Errorf("%d were sent, and %d: %d", n, len(sent), six.Sent)
			}
		}
	}
}

// openOrFull is the fabric behind a question, whatever it was told.
func openOrFull(t *testing.T, f impl.Fabric, unit int, q impl.Req) impl.Fabric {
	t.Helper()
	got, _ := asksTo(t, "asked", f, 0, 0, unit, q)
	return got
}

// moves tells of each count whether it is n more, or its most.
func moves(t *testing.T, what string, before impl.Fabric, then impl.Fabric, asked int, sent int, replies []impl.Reply) {
	t.Helper()
	faults := 0
	for _, r := range replies {
		if r.Resp.Fault != 0 {
			faults++
		}
	}
	for i, n := range []int{asked, len(replies), faults, sent} {
		if was, is := counts(before)[i], counts(then)[i]; is != min(was+n, mostCount) {
			t.Fatalf("%s: the %dth count goes from %d to %d, by %d", what, i, was, is, n)
		}
	}
}

// A desk asks a fabric from without: it has devices, lets their answers come late, twice or not at all, and keeps what it
// has no reply to.
type desk struct {
	f       impl.Fabric
	open    map[int]impl.Req
	back    []impl.Send // orders that devices have answered: what comes back is one of these
	next    int
	replied int
}

func (d *desk) ask(t *testing.T, unit int, q impl.Req) {
	t.Helper()
	tag := d.next
	d.next++
	d.open[tag] = q
	was := d.f
	f, replies := impl.FabricAsk(was, tag%7, tag, unit, q)
	moves(t, "asked", was, f, 1, 0, replies)
	if len(replies) > 0 && (len(replies) != 1 || replies[0].Tag != tag || len(replies[0].Parts)+len(replies[0].Told) != 0 || replies[0].Resp.Fault == 0) {
		t.Fatalf("asked under %d, %v is told at once", tag, replies)
	}
	d.f = f
	d.told(t, replies)
}

// told wants that each reply is the first one to a question that was asked, and suits it.
func (d *desk) told(t *testing.T, replies []impl.Reply) {
	t.Helper()
	for _, r := range replies {
		q, open := d.open[r.Tag]
		if !open || r.Source != r.Tag%7 || !equalReq(r.Req, q) || !impl.Suits(q, r.Resp) {
			t.Fatalf("the reply %v, while %v is open", r, d.open)
		}
		if len(r.Parts) > 0 && !equalResp(r.Resp, impl.Joined(q, r.Parts, r.Told)) {
			t.Fatalf("the reply %v is not joined", r)
		}
		delete(d.open, r.Tag)
		d.replied++
	}
}

func (d *desk) tick(t *testing.T) {
	t.Helper()
	was := d.f
	f, sent, replies := impl.FabricTick(was)
	moves(t, "ticked", was, f, 0, len(sent), replies)
	if !slices.IsSortedFunc(sent, func(a impl.Send, b impl.Send) int { return a.Port - b.Port }) {
		t.Fatalf("%v is sent", sent)
	}
	d.f = f
	d.back = append(d.back, sent...)
	d.told(t, replies)
}

// hear lets the answer to an order come back, at its port or at another.
func (d *desk) hear(t *testing.T, s impl.Send, port int, fault int) {
	t.Helper()
	a := fitting(s.Order.Req)
	if fault != 0 {
		a = impl.Resp{Kind: s.Order.Req.Kind, Fault: fault}
	}
	was := d.f
	f, replies := impl.FabricHear(was, port, s.Order.Number, s.Order.Unit, a)
	moves(t, "heard", was, f, 0, 0, replies)
	if len(replies) > 1 {
		t.Fatalf("one answer tells %v", replies)
	}
	d.f = f
	d.told(t, replies)
}

// stillRight wants that the fabric is right, and has open just what has no reply.
func (d *desk) stillRight(t *testing.T) {
	t.Helper()
	for _, p := range d.f.Open.List {
		if q, open := d.open[p.Tag]; !open || !equalReq(p.Req, q) {
			t.Fatalf("%v is open, while %v has no reply", p, d.open)
		}
	}
	if !impl.FabricOk(d.f) || len(d.f.Open.List) != len(d.open) || impl.Load(d.f) != impl.Waiting(d.f.Open) {
		t.Fatalf("the fabric is %v, while %v is open", d.f, d.open)
	}
}

// deskRules gives rules of unit 9 with several parts at several lines, or at one.
func deskRules(i int) []impl.Rule {
	all := []int{0, 1, 2, 3}
	list := cutRules(all, 60, 10, mixedShift)
	switch i % 6 {
	case 1:
		list = oneLine(i % 5)
	case 2:
		list = cutRules(all, 60, 13, noShift)
	case 3:
		list = cutRules([]int{2}, 24, 1, mixedShift)
	case 4:
		for j := range list {
			list[j].Port = j % 2
		}
	case 5:
		list = nil
	}
	return list
}

// deskAsk gives a question that such rules may take apart.
func deskAsk(a int, b int) impl.Req {
	k := askKinds[a%len(askKinds)]
	if k.kind == 23 {
		return bothAt(a%20, 1+b%5, b%30, 1+a%3)
	}
	return askAt(k.kind, b%50, min(k.most, 1+(a+b)%18))
}

func TestEachQuestionIsRepliedToOnce(t *testing.T) {
	for seed := range uint32(150) {
		b := sampleBytes(seed, 600)
		wait, tries := 1+int(b[0])%4, int(b[1])%4
		d := desk{f: impl.FabricNew(impl.Config{Wait: wait, Tries: tries, Rules: deskRules(int(seed))}), open: map[int]impl.Req{}}
		d.f.Now = []int{0, lastTick - 40, 1<<31 - 20}[seed%3]
		d.f.Lines[seed%6].Next = 65530
		for i := 2; i+2 < len(b); i += 3 {
			x, y := int(b[i+1]), int(b[i+2])
			switch c := b[i]; {
			case c < 80:
				d.ask(t, 9, deskAsk(x, y))
			case c < 84:
				d.ask(t, 8, deskAsk(x, y))
			case c < 160:
				d.tick(t)
			case c < 250 && len(d.back) > 0:
				// the last ones first, most of the time; some stay and come again, some never come
				at := len(d.back) - 1 - x%min(len(d.back), 1+y%30)
				s, port := d.back[at], d.back[at].Port
				if y%9 == 0 {
					port = y/9%9 - 1
				}
				d.hear(t, s, port, max(0, x-200))
				if x%3 == 0 {
					d.back = slices.Delete(d.back, at, at+1)
				}
			case c >= 250:
				var swapped bool
				if d.f, swapped = impl.FabricSwap(d.f, deskRules(x)); !swapped {
					t.Fatal("no swap")
				}
			}
			d.stillRight(t)
		}
		for range impl.Load(d.f)*wait*(tries+1) + 2 {
			d.tick(t)
		}
		d.stillRight(t)
		if len(d.open) != 0 || d.replied != d.next || d.f.Asked != d.next || d.f.Replied != d.next || impl.Load(d.f) != 0 {
			t.Fatalf("%d were asked, %d replied, %v have no reply", d.next, d.replied, d.open)
		}
	}
}

// Told in whatever order its lines are heard, a question is replied to as if one device had been asked.
func TestARepliedQuestionIsAsOneDevice(t *testing.T) {
	for i, k := range askKinds {
		q := askAt(k.kind, 2, min(k.most, 18))
		if k.kind == 23 {
			q = bothAt(1, 6, 3, 4)
		}
		bits, words := sampleBits(uint32(i), 40), sampleWords(uint32(i), 40)
		for _, rules := range [][]impl.Rule{cutRules([]int{k.space}, 24, 8, mixedShift), cutRules([]int{k.space}, 24, 24, noShift)} {
			f, replies := impl.FabricAsk(ruled(rules...), 5, 6, 9, q)
			list := f.Open.List[0].Parts
			told := toldAll(q, list, bits, words)
			f, _, _ = impl.FabricTick(f)
			for _, order := range ordersOf(len(list)) {
				g := f
				for n, part := range order {
					g, replies = hearsFabric(t, "in this order", g, list[part].Port, 0, list[part].Unit, told[part])
					if (len(replies) == 1) != (n == len(order)-1) {
						t.Errorf("%v, in the order %v: behind %d %v is replied", q, order, n, replies)
					}
				}
				want := []impl.Reply{{Source: 5, Tag: 6, Req: q, Parts: list, Told: told, Resp: slowWhole(q, bits, words)}}
				if !equalReplies(replies, want) || impl.Load(g) != 0 {
					t.Errorf("%v, in the order %v: %v is replied, not %v", q, order, replies, want)
				}
			}
		}
	}
}

// An answer to what was given up tells nothing to what is asked under the next number.
func TestALateAnswerIsPassedOver(t *testing.T) {
	f := ruled(ruleOf(2, 0, 99, 4, 50, 0))
	q := impl.Req{Kind: 3, At: 5, N: 2}
	f = openAsked(t, "first", f, 9, q)
	f = openAsked(t, "second", f, 9, q)
	var replies []impl.Reply
	for range 7 {
		f, _, replies = ticksFabric(t, "given up", f)
	}
	if len(replies) != 1 || f.Replied != 1 || impl.Load(f) != 1 {
		t.Fatalf("%v, %v", f, replies)
	}
	hearsNothing(t, "late", f, 4, 0, 50, fitting(q))
	f, replies = hearsFabric(t, "in time", f, 4, 1, 50, fitting(q))
	if len(replies) != 1 || f.Replied != 2 || f.Faults != 1 || len(f.Open.List) != 0 {
		t.Errorf("%v, %v", f, replies)
	}
	hearsNothing(t, "late", f, 4, 0, 50, fitting(q))
	hearsNothing(t, "twice", f, 4, 1, 50, fitting(q))
}

// playFabric moves a fabric by what bytes tell, and wants each time what the chapter's words tell.
func playFabric(t *testing.T, b []byte) {
	t.Helper()
	f := impl.FabricNew(impl.Config{Wait: 1 + len(b)%4, Tries: len(b) % 3, Rules: deskRules(len(b))})
	f.Now = edgeTicks[len(b)%len(edgeTicks)]
	f.Open.Next = []int{0, 7, mostId - 9}[len(b)%3]
	for i := range 4 {
		*[]*int{&f.Asked, &f.Replied, &f.Faults, &f.Sent}[i] = []int{0, 50, mostCount - 9}[(len(b)+i)%3]
	}
	for i := 0; i+2 < len(b); i += 3 {
		x, y := int(b[i+1]), int(b[i+2])
		switch c := int(b[i]); c % 8 {
		case 0, 1, 2:
			source, unit, q := x, 9, deskAsk(x, y)
			switch c / 8 {
			case 0:
				source = farNumbers[x%len(farNumbers)]
			case 1:
				unit = farNumbers[x%len(farNumbers)]
			case 2:
				q = wrongQuestions()[x%len(wrongQuestions())]
			}
			f, _ = asksTo(t, "played", f, source, y, unit, q)
		case 3, 4:
			f, _, _ = ticksFabric(t, "played", f)
		case 5, 6:
			port := y % 8
			l := f.Lines[min(port, 5)]
			number, unit, a := l.Number, l.Call.Unit, fitting(l.Call.Req)
			switch x % 16 {
			case 0:
				number = farNumbers[y%len(farNumbers)]
			case 1:
				unit = farNumbers[y%len(farNumbers)]
			case 2:
				port = farNumbers[y%len(farNumbers)]
			case 3:
				a = notSuiting(l.Call.Req)[y%8]
			case 4:
				a = impl.Resp{Kind: l.Call.Req.Kind, Fault: y}
			}
			f, _ = hearsFabric(t, "played", f, port, number, unit, a)
		case 7:
			rules, ok := deskRules(x), true
			if y%3 == 0 {
				rules, ok = wrongRules()[x%40], false
			}
			f = swapsTo(t, "played", f, rules, ok)
		}
	}
}

func TestFabricsOfSamples(t *testing.T) {
	for seed := range uint32(150) {
		playFabric(t, sampleBytes(seed, 250+int(seed)))
	}
}

func FuzzFabric(f *testing.F) {
	for _, b := range sampleLists() {
		f.Add(b[:min(len(b), 300)])
	}
	f.Fuzz(func(t *testing.T, b []byte) { playFabric(t, b[:min(len(b), 300)]) })
}

// What the functions of chapter 14 are handed, and what they answer.
type (
	fabricArgs struct {
		Fabric impl.Fabric
		Req    impl.Req
		Unit   int
		Port   int
		Number int
		Resp   impl.Resp
		Rules  []impl.Rule
	}
	fabricAnswer struct {
		Fabric  impl.Fabric
		Sends   []impl.Send
		Replies []impl.Reply
		Ok      bool
		Load    int
	}
)

func newFabric(a fabricArgs) fabricAnswer { return fabricAnswer{Fabric: impl.FabricNew(a.Fabric.Set)} }

func askFabric(a fabricArgs) fabricAnswer {
	f, replies := impl.FabricAsk(a.Fabric, 1, 2, a.Unit, a.Req)
	return fabricAnswer{Fabric: f, Replies: replies}
}

func tickFabric(a fabricArgs) fabricAnswer {
	f, sent, replies := impl.FabricTick(a.Fabric)
	return fabricAnswer{Fabric: f, Sends: sent, Replies: replies}
}

func hearFabric(a fabricArgs) fabricAnswer {
	f, replies := impl.FabricHear(a.Fabric, a.Port, a.Number, a.Unit, a.Resp)
	return fabricAnswer{Fabric: f, Replies: replies}
}

func swapFabric(a fabricArgs) fabricAnswer {
	f, ok := impl.FabricSwap(a.Fabric, a.Rules)
	return fabricAnswer{Fabric: f, Ok: ok}
}

func lookAtFabric(a fabricArgs) fabricAnswer {
	return fabricAnswer{Ok: impl.FabricOk(a.Fabric), Load: impl.Load(a.Fabric)}
}

// fabricAsks are the functions of chapter 14 by their names.
var fabricAsks = map[string]func(fabricArgs) fabricAnswer{
	"FabricNew": newFabric, "FabricAsk": askFabric, "FabricTick": tickFabric, "FabricHear": hearFabric, "FabricSwap": swapFabric, "FabricOk or Load": lookAtFabric,
}

// memoryFabrics gives fabrics with matters of every kind, right and not, some of whose lines give up at the next tick.
func memoryFabrics() []impl.Fabric {
	list := []impl.Fabric{{}, ruled(), ruled(rulesFrom(24)...), plainFabric(), allAsk(single(1, 0), single(2, 1, 2), single(3, 2, 3))}
	for i := range askKinds {
		few, full := holding(tableOf(i, 3), 63), holding(tableOf(i, 16), 63)
		gives := cloneFabric(few)
		for port := range gives.Lines {
			if gives.Lines[port].Busy {
				gives.Lines[port].Due, gives.Lines[port].Left = 501, 0
			}
		}
		wrong, fewer := cloneFabric(few), cloneFabric(few)
		wrong.Now, fewer.Lines = -1, fewer.Lines[:5]
		list = append(list, few, full, gives, wrong, fewer)
	}
	return list
}

// memoryHandedIn gives what such a fabric may be handed.
func memoryHandedIn(f impl.Fabric) []fabricArgs {
	var list []fabricArgs
	for i, k := range askKinds {
		q := askAt(k.kind, 8, min(k.most, 9))
		if k.kind == 23 {
			q = bothAt(1, 2, 3, 4)
		}
		list = append(list, fabricArgs{Fabric: f, Req: q, Unit: 9, Rules: rulesFrom(i), Port: -1}, fabricArgs{Fabric: f, Req: q, Unit: 8, Rules: wrongRules()[i], Port: 6})
	}
	for port, l := range f.Lines {
		list = append(list, fabricArgs{Fabric: f, Port: port, Number: l.Number, Unit: l.Call.Unit, Resp: fitting(l.Call.Req)},
			fabricArgs{Fabric: f, Port: port, Number: l.Number, Unit: l.Call.Unit, Resp: impl.Resp{Kind: 7, Words: []int{1}, Bits: []bool{true}}, Req: impl.Req{Kind: 16, At: -1, Words: []int{1, 2}}})
	}
	return list
}

func TestFabricsAnswerNewMemory(t *testing.T) {
	for _, f := range memoryFabrics() {
		for _, args := range memoryHandedIn(f) {
			for what, ask := range fabricAsks {
				sharesNothing(t, what, args, ask)
			}
		}
	}
}

// What an argument shares within itself, or with another one, its answer does not.
func TestWhatFabricsShare(t *testing.T) {
	for i := range askKinds {
		q, _ := splitOf(i, 1)
		part := impl.Part{Port: 1, Unit: 2, Req: q}
		told := fitting(q)
		p := impl.Pend{Source: 1, Unit: 1, Req: q, Parts: []impl.Part{part, part, part}, Has: []bool{true, true, false}, Told: []impl.Resp{told, told, {}}}
		other := p
		other.Id = 3
		f := holding(impl.Table{Next: 9, List: []impl.Pend{p, other}}, 63)
		wrong := f
		wrong.Asked = -1
		for _, f := range []impl.Fabric{f, wrong} {
			for _, due := range []int{501, 600} {
				f.Lines[1].Due, f.Lines[1].Left = due, 0
				args := fabricArgs{Fabric: f, Req: q, Port: 1, Number: 711, Unit: 2, Resp: told, Rules: f.Set.Rules}
				for what, ask := range fabricAsks {
					staysApart(t, what, args, ask)
				}
				for _, unit := range []int{9, 8} {
					args.Unit = unit
					staysApart(t, "FabricAsk", args, askFabric)
				}
			}
		}
	}
}

// What is answered hangs on the arguments alone: asked again, and in another order, it is the same.
func TestFabricsKeepNothing(t *testing.T) {
	var all []fabricArgs
	for i, f := range memoryFabrics() {
		all = append(all, memoryHandedIn(f)[i%5:i%5+8]...)
	}
	ask := func() (out []string) {
		for _, a := range all {
			out = append(out, fmt.Sprint(newFabric(a), askFabric(a), tickFabric(a), hearFabric(a), swapFabric(a), lookAtFabric(a)))
		}
		return out
	}
	first := ask()
	for range 4 {
		slices.Reverse(all)
		again := ask()
		slices.Reverse(first)
		if !slices.Equal(first, again) {
			t.Fatal("asked in another order, other things are answered")
		}
	}
}
