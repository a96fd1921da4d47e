package tests

import (
	"fmt"
	"math"
	"slices"
	"testing"

	"loop.example/g00129/impl"
)

const mostOpen = 16

func equalPend(a impl.Pend, b impl.Pend) bool {
	return a.Id == b.Id && a.Source == b.Source && a.Tag == b.Tag && a.Unit == b.Unit && equalReq(a.Req, b.Req) &&
		equalParts(a.Parts, b.Parts) && slices.Equal(a.Has, b.Has) && slices.EqualFunc(a.Told, b.Told, equalResp)
}

func equalTable(a impl.Table, b impl.Table) bool {
	return a.Next == b.Next && slices.EqualFunc(a.List, b.List, equalPend)
}

func equalReply(a impl.Reply, b impl.Reply) bool {
	return a.Source == b.Source && a.Tag == b.Tag && equalReq(a.Req, b.Req) && equalParts(a.Parts, b.Parts) &&
		slices.EqualFunc(a.Told, b.Told, equalResp) && equalResp(a.Resp, b.Resp)
}

func equalReplies(a []impl.Reply, b []impl.Reply) bool { return slices.EqualFunc(a, b, equalReply) }

// clonePend has lists of its own where tests write into one.
func clonePend(p impl.Pend) impl.Pend {
	p.Parts, p.Has, p.Told = cloneParts(p.Parts), slices.Clone(p.Has), slices.Clone(p.Told)
	return p
}

func cloneTable(x impl.Table) impl.Table {
	x.List = slices.Clone(x.List)
	for i, p := range x.List {
		x.List[i] = clonePend(p)
	}
	return x
}

// splitOf gives a question of the i-th kind and its parts: n of them, or one where the kind has no more.
func splitOf(i int, n int) (impl.Req, []impl.Part) {
	k := askKinds[i%len(askKinds)]
	q := askAt(k.kind, 1, min(k.most, 3*n-2))
	if k.kind == 23 {
		q = bothAt(1, 2, 0, 2)
	}
	list, _ := slowParts(cutRules([]int{k.space}, 24, 3, mixedShift), 9, q)
	return q, list
}

// matterOf gives the i-th of matters that differ in all they have, of n parts (one where its kind has no more), none of them told.
func matterOf(id int, i int, n int) impl.Pend {
	q, list := splitOf(i, n)
	return impl.Pend{Id: id, Source: 100 + i, Tag: 200 + 3*i, Unit: 1 + i*7%247, Req: q, Parts: list, Has: make([]bool, len(list)), Told: make([]impl.Resp, len(list))}
}

// answersTo gives what the parts of a matter may be told, other bits and words at each place.
func answersTo(p impl.Pend) []impl.Resp {
	return toldAll(p.Req, p.Parts, sampleBits(uint32(p.Id), 40), sampleWords(uint32(p.Id), 40))
}

// toldSome is the matter when the parts whose bit is in mask were told.
func toldSome(p impl.Pend, mask int) impl.Pend {
	p = clonePend(p)
	for i, a := range answersTo(p) {
		if mask>>i&1 == 1 {
			p.Has[i], p.Told[i] = true, a
		}
	}
	return p
}

// tableOf gives a table of n matters from the i-th kind on, of 1 to 8 parts, some of which were told.
func tableOf(i int, n int) impl.Table {
	x := impl.Table{Next: 5*n + i}
	for j := range n {
		p := matterOf(5*j+i%5, i+j, 1+(i+j)%8)
		x.List = append(x.List, toldSome(p, (i+j)*5%(1<<len(p.Parts)-1)))
	}
	return x
}

// slowPend tells whether a matter is as chapter 13 tells it, but for its Id.
func slowPend(p impl.Pend) bool {
	if len(p.Has) != len(p.Parts) || len(p.Told) != len(p.Parts) || len(p.Parts) < 1 || len(p.Parts) > 8 {
		return false
	}
	told := 0
	for i, part := range p.Parts {
		if part.Port < 0 || part.Port > 5 || part.Unit < 1 || part.Unit > 247 || !impl.ReqOk(part.Req) {
			return false
		}
		if p.Has[i] {
			told++
			if !impl.Suits(part.Req, p.Told[i]) {
				return false
			}
		} else if !equalResp(p.Told[i], impl.Resp{}) {
			return false
		}
	}
	return told < len(p.Parts) && p.Source >= 0 && p.Source <= 1000000000 && p.Tag >= 0 && p.Tag <= 1000000000 && impl.ReqOk(p.Req)
}

// slowTable is TableOk as chapter 13 words it: each pair of matters is asked.
func slowTable(x impl.Table) bool {
	for i, p := range x.List {
		if !slowPend(p) || p.Id < 0 || p.Id >= x.Next {
			return false
		}
		for _, before := range x.List[:i] {
			if before.Id >= p.Id {
				return false
			}
		}
	}
	return x.Next >= 0 && x.Next <= 1000000000 && len(x.List) <= 16
}

// slowOpen is TableOpen as chapter 13 words it.
func slowOpen(x impl.Table, p impl.Pend) (impl.Table, int, bool) {
	opened := impl.Table{Next: x.Next + 1, List: slices.Clone(x.List)}
	p.Id, p.Has, p.Told = x.Next, make([]bool, len(p.Parts)), make([]impl.Resp, len(p.Parts))
	opened.List = append(opened.List, p)
	if !slowTable(x) || !slowTable(opened) || len(x.List) >= 16 {
		return x, 0, false
	}
	return opened, x.Next, true
}

// slowReply is the Reply of a matter all of whose parts were told.
func slowReply(p impl.Pend) impl.Reply {
	resp := slowJoined(p.Req, p.Parts, p.Told)
	for _, a := range slices.Backward(p.Told) {
		if a.Fault != 0 {
			resp = impl.Resp{Kind: p.Req.Kind, Fault: a.Fault}
		}
	}
	return impl.Reply{Source: p.Source, Tag: p.Tag, Req: p.Req, Parts: p.Parts, Told: p.Told, Resp: resp}
}

// slowFill is TableFill as chapter 13 words it.
func slowFill(x impl.Table, id int, part int, a impl.Resp) (impl.Table, []impl.Reply) {
	if !slowTable(x) {
		return x, nil
	}
	filled := cloneTable(x)
	for i, p := range filled.List {
		if p.Id != id {
			continue
		}
		if part < 0 || part >= len(p.Parts) || p.Has[part] || !impl.Suits(p.Parts[part].Req, a) {
			return x, nil
		}
		p.Has[part], p.Told[part] = true, a
		if !slices.Contains(p.Has, false) {
			filled.List = slices.Delete(filled.List, i, i+1)
			return filled, []impl.Reply{slowReply(p)}
		}
		return filled, nil
	}
	return x, nil
}

// slowWaiting is Waiting as chapter 13 words it.
func slowWaiting(x impl.Table) int {
	if !slowTable(x) {
		return 0
	}
	n := 0
	for _, p := range x.List {
		for _, has := range p.Has {
			if !has {
				n++
			}
		}
	}
	return n
}

// tableIs wants that TableOk tells this; the chapter's words must tell the same.
func tableIs(t *testing.T, what string, x impl.Table, right bool) {
	t.Helper()
	if slow := slowTable(x); slow != right {
		t.Fatalf("%s: as worded, TableOk of %v is %v", what, x, slow)
	}
	if got := impl.TableOk(x); got != right {
		t.Errorf("%s: TableOk of %v is %v", what, x, got)
	}
	if got := impl.Waiting(x); got != slowWaiting(x) {
		t.Errorf("%s: Waiting of %v is %d", what, x, got)
	}
}

// opens wants of TableOpen what the chapter's words tell, and that it is this.
func opens(t *testing.T, what string, x impl.Table, p impl.Pend, ok bool) impl.Table {
	t.Helper()
	want, wantId, slow := slowOpen(x, p)
	if slow != ok {
		t.Fatalf("%s: as worded, TableOpen of %v and %v is %v", what, x, p, slow)
	}
	got, id, gotOk := impl.TableOpen(x, p.Source, p.Tag, p.Unit, p.Req, p.Parts)
	if !equalTable(got, want) || id != wantId || gotOk != ok {
		t.Errorf("%s: TableOpen of %v and %v is %v, %d, %v, not %v, %d, %v", what, x, p, got, id, gotOk, want, wantId, ok)
	}
	return got
}

// fills wants of TableFill this table and these replies.
func fills(t *testing.T, x impl.Table, id int, part int, a impl.Resp, want impl.Table, replies ...impl.Reply) impl.Table {
	t.Helper()
	got, gotReplies := impl.TableFill(x, id, part, a)
	if !equalTable(got, want) || !equalReplies(gotReplies, replies) {
		t.Errorf("TableFill of %v, %d, %d, %v is %v, %v, not %v, %v", x, id, part, a, got, gotReplies, want, replies)
	}
	return got
}

// keepsAll wants that a table that is not right is left as it is by all that is done to it.
func keepsAll(t *testing.T, what string, x impl.Table) {
	t.Helper()
	tableIs(t, what, x, false)
	opens(t, what, x, matterOf(0, 2, 3), false)
	for _, p := range x.List[:min(4, len(x.List))] {
		for i, part := range p.Parts {
			fills(t, x, p.Id, i, fitting(part.Req), x)
			fills(t, x, p.Id, i, impl.Resp{Kind: part.Req.Kind, Fault: 2}, x)
		}
	}
}

func TestTableNames(t *testing.T) {
	if impl.MaxOpen != mostOpen {
		t.Errorf("MaxOpen is %d", impl.MaxOpen)
	}
}

func TestTableOkOfRightTables(t *testing.T) {
	for _, next := range []int{0, 1, 999999999, mostId} {
		tableIs(t, "empty", impl.Table{Next: next}, true)
		tableIs(t, "an empty list", impl.Table{Next: next, List: []impl.Pend{}}, true)
	}
	for i := range 40 {
		for n := range mostOpen + 1 {
			tableIs(t, "some", tableOf(i, n), true)
		}
	}
	// an empty list and nil are the same value
	x := impl.Table{Next: 1, List: []impl.Pend{matterOf(0, 2, 2)}}
	x.List[0].Told[1] = impl.Resp{Words: []int{}, Bits: []bool{}}
	x.List[0].Req.Words, x.List[0].Parts[0].Req.Bits = []int{}, []bool{}
	tableIs(t, "empty lists", x, true)
	behind := tableOf(3, 3)
	behind.List = append(behind.List, impl.Pend{})[:3]
	behind.List[1].Parts = append(behind.List[1].Parts, impl.Part{})[:len(behind.List[1].Parts)]
	tableIs(t, "behind the length", behind, true)
}

func TestNextOfATable(t *testing.T) {
	one := matterOf(0, 2, 2)
	for _, next := range append([]int{-2, -1, mostId + 1, mostId + 2, 1 << 31, -1 << 31}, farNumbers...) {
		if next >= 0 && next <= mostId {
			tableIs(t, "Next", impl.Table{Next: next}, true)
			continue
		}
		keepsAll(t, "Next", impl.Table{Next: next})
		keepsAll(t, "Next", impl.Table{Next: next, List: []impl.Pend{one}})
		if next > 0 {
			one.Id = next - 1
			keepsAll(t, "Next", impl.Table{Next: next, List: []impl.Pend{one}})
			one.Id = 0
		}
	}
}

func TestIdsAscendBelowNext(t *testing.T) {
	for _, k := range []struct {
		next  int
		ids   []int
		right bool
	}{
		{1, []int{0}, true}, {0, []int{0}, false}, {1, []int{1}, false}, {1, []int{-1}, false}, {0, []int{-1}, false}, {1, []int{2}, false},
		{mostId, []int{mostId - 1}, true}, {mostId, []int{mostId}, false}, {mostId, []int{mostId + 1}, false}, {mostId, []int{0, mostId - 1}, true},
		{9, []int{8}, true}, {9, []int{9}, false}, {9, []int{0, 1, 8}, true}, {9, []int{0, 1, 9}, false}, {9, []int{-1, 0, 1}, false},
		{9, []int{3, 3}, false}, {9, []int{0, 0}, false}, {9, []int{3, 2}, false}, {9, []int{1, 0}, false}, {9, []int{1, 2, 2}, false}, {9, []int{1, 1, 2}, false},
		{9, []int{1, 3, 2}, false}, {9, []int{2, 1, 3}, false}, {9, []int{1, 2, 1}, false}, {9, []int{1, 2, 3}, true}, {9, []int{2, 4, 7}, true},
		{9, []int{9, 1}, false}, {9, []int{8, 1}, false}, {9, []int{math.MaxInt}, false}, {9, []int{math.MinInt}, false}, {9, []int{math.MaxInt, 1}, false}, {9, []int{math.MinInt, 1}, false},
		{mostId, []int{math.MaxInt, math.MinInt}, false}, {9, []int{1 << 32}, false}, {9, []int{1<<32 + 1}, false}, {9, []int{1 - 1<<32}, false},
	} {
		x := impl.Table{Next: k.next}
		for i, id := range k.ids {
			x.List = append(x.List, matterOf(id, i, 3))
		}
		if k.right {
			tableIs(t, fmt.Sprint(k.next, k.ids), x, true)
		} else {
			keepsAll(t, fmt.Sprint(k.next, k.ids), x)
		}
	}
}

func TestSixteenMattersAndSeventeen(t *testing.T) {
	for i := range 10 {
		for n := 14; n <= 20; n++ {
			x := tableOf(i, n)
			if n > mostOpen {
				keepsAll(t, "too many", x)
				continue
			}
			tableIs(t, "many", x, true)
			opens(t, "one more", x, matterOf(0, i, 3), n < mostOpen)
		}
	}
	keepsAll(t, "far too many", tableOf(0, 1000))
}

// A pendEdit makes a matter one at an end of what is right, or beyond it.
type pendEdit struct {
	what  string
	edit  func(*impl.Pend)
	right bool
}

// editsOf gives an edit of a field for each of these numbers.
func editsOf(what string, field func(*impl.Pend) *int, right bool, numbers ...int) (list []pendEdit) {
	for _, n := range numbers {
		list = append(list, pendEdit{fmt.Sprint(what, " ", n), func(p *impl.Pend) { *field(p) = n }, right})
	}
	return list
}

// askedEdits gives edits of what TableOpen is handed: who asks, under which tag, of which unit what, and the parts of it.
func askedEdits() []pendEdit {
	far := []int{-1, -2, mostId + 1, 1 << 31, 1<<32 + 1, -1 << 32, math.MinInt, math.MaxInt}
	source := func(p *impl.Pend) *int { return &p.Source }
	tag := func(p *impl.Pend) *int { return &p.Tag }
	unit := func(p *impl.Pend) *int { return &p.Unit }
	noUnits := append([]int{-1, 0, 248, 249, 255}, farNumbers...)
	list := slices.Concat(
		editsOf("Source", source, true, 0, 1, 999999999, mostId), editsOf("Source", source, false, far...),
		editsOf("Tag", tag, true, 0, 1, 999999999, mostId), editsOf("Tag", tag, false, far...),
		editsOf("Unit", unit, true, append([]int{1, 2, 128, 246, 247}, noUnits...)...))
	for _, q := range wrongQuestions() {
		list = append(list, pendEdit{fmt.Sprint("Req ", q), func(p *impl.Pend) { p.Req = q }, false})
	}
	for i := range 3 {
		port := func(p *impl.Pend) *int { return &p.Parts[i].Port }
		device := func(p *impl.Pend) *int { return &p.Parts[i].Unit }
		list = slices.Concat(list,
			editsOf(fmt.Sprint("Port of ", i), port, true, 0, 1, 2, 3, 4, 5), editsOf(fmt.Sprint("Port of ", i), port, false, append([]int{-1, -2, 6, 7}, farNumbers...)...),
			editsOf(fmt.Sprint("Unit of ", i), device, true, 1, 2, 246, 247), editsOf(fmt.Sprint("Unit of ", i), device, false, noUnits...))
		for _, q := range wrongQuestions() {
			list = append(list, pendEdit{fmt.Sprint("Req of ", i, " ", q), func(p *impl.Pend) { p.Parts[i].Req = q }, false})
		}
	}
	return list
}

// alone gives an edit after which the i-th of three parts has this, and the others nothing.
func alone(i int, has bool, a impl.Resp) func(*impl.Pend) {
	return func(p *impl.Pend) {
		p.Has, p.Told = make([]bool, 3), make([]impl.Resp, 3)
		p.Has[i], p.Told[i] = has, a
	}
}

// toldEdits gives edits of what the parts of a matter of three were told, of which the middle one was.
func toldEdits() []pendEdit {
	list := []pendEdit{
		{"nothing told", func(p *impl.Pend) { p.Has, p.Told = make([]bool, 3), make([]impl.Resp, 3) }, true},
		{"told, and not marked", func(p *impl.Pend) { p.Has[1] = false }, false},
		{"marked, and not told", func(p *impl.Pend) { p.Told[1] = impl.Resp{} }, false},
		{"the first marked, and not told", func(p *impl.Pend) { p.Has[0] = true }, false},
		{"the last marked, and not told", func(p *impl.Pend) { p.Has[2] = true }, false},
		{"all told", func(p *impl.Pend) { *p = toldSome(*p, 7) }, false},
		{"all told, with a fault", func(p *impl.Pend) { *p = toldSome(*p, 7); p.Told[0] = impl.Resp{Kind: 3, Fault: 2} }, false},
		{"a fault told", func(p *impl.Pend) { p.Told[1] = impl.Resp{Kind: 3, Fault: 255} }, true},
		{"Has is short", func(p *impl.Pend) { p.Has = p.Has[:2] }, false},
		{"Has is long", func(p *impl.Pend) { p.Has = append(p.Has, false) }, false},
		{"Has is longer by a true", func(p *impl.Pend) { p.Has = append(p.Has, true) }, false},
		{"Has is empty", func(p *impl.Pend) { p.Has = nil }, false},
		{"Told is short", func(p *impl.Pend) { p.Told = p.Told[:2] }, false},
		{"Told is long", func(p *impl.Pend) { p.Told = append(p.Told, impl.Resp{}) }, false},
		{"Told is empty", func(p *impl.Pend) { p.Told = nil }, false},
		{"Has and Told are short", func(p *impl.Pend) { p.Has, p.Told = p.Has[:2], p.Told[:2] }, false},
		{"Has and Told are long", func(p *impl.Pend) { p.Has, p.Told = append(p.Has, false), append(p.Told, impl.Resp{}) }, false},
		{"Has and Told are empty", func(p *impl.Pend) { p.Has, p.Told = nil, nil }, false},
		{"a part less", func(p *impl.Pend) { p.Parts = p.Parts[:2] }, false},
		{"a part more", func(p *impl.Pend) { p.Parts = append(p.Parts, p.Parts[0]) }, false},
		{"no part", func(p *impl.Pend) { p.Parts = nil }, false},
		{"nothing at all", func(p *impl.Pend) { p.Parts, p.Has, p.Told = nil, nil, nil }, false},
	}
	for i, part := range matterOf(0, 2, 3).Parts {
		for _, a := range notSuiting(part.Req) {
			list = append(list, pendEdit{fmt.Sprint("told what does not suit ", i, a), alone(i, true, a), false})
			zero := equalResp(a, impl.Resp{})
			list = append(list, pendEdit{fmt.Sprint("not told, with ", i, a), alone(i, false, a), zero})
		}
		for _, a := range []impl.Resp{fitting(part.Req), {Kind: 3, Fault: 1}} {
			list = append(list, pendEdit{fmt.Sprint("told ", i, a), alone(i, true, a), true}, pendEdit{fmt.Sprint("not told, with ", i, a), alone(i, false, a), false})
		}
		for _, a := range []impl.Resp{{At: 1}, {N: 1}, {N: -1}, {Fault: 1}, {Words: []int{0}}, {Bits: []bool{false}}} {
			list = append(list, pendEdit{fmt.Sprint("not told, with ", i, a), alone(i, false, a), false})
		}
	}
	return list
}

// A placed is a table, and where in its list the matter stands that it is about.
type placed struct {
	table impl.Table
	at    int
}

// beside gives tables in which the matter stands alone, first, last, between others, and among as many as may be.
func beside(p impl.Pend) []placed {
	var list []placed
	for _, k := range []struct{ before, behind int }{{0, 0}, {0, 1}, {1, 0}, {1, 1}, {2, 1}, {0, 15}, {15, 0}, {7, 8}} {
		x := tableOf(1, k.before)
		p.Id = 5 * (k.before + 1)
		x.List = append(x.List, clonePend(p))
		for j := range k.behind {
			x.List = append(x.List, matterOf(p.Id+1+j, j, 1+j%8))
		}
		x.Next = p.Id + k.behind + 1
		list = append(list, placed{x, k.before})
	}
	return list
}

func TestEachMatterOfATable(t *testing.T) {
	plain := toldSome(matterOf(0, 2, 3), 2)
	for _, k := range slices.Concat(askedEdits(), toldEdits()) {
		p := clonePend(plain)
		k.edit(&p)
		for _, x := range beside(p) {
			if k.right {
				tableIs(t, k.what, x.table, true)
			} else {
				keepsAll(t, k.what, x.table)
			}
		}
	}
}

// many gives a matter of n parts, however many that are.
func many(n int) impl.Pend {
	p := matterOf(0, 2, 1)
	p.Parts, p.Has, p.Told = slices.Repeat(p.Parts, n), make([]bool, n), make([]impl.Resp, n)
	return p
}

func TestEightPartsOfAMatterAndNine(t *testing.T) {
	for _, n := range []int{0, 1, 2, 7, 8, 9, 10, 16, 100} {
		p, right := many(n), n >= 1 && n <= 8
		for _, x := range beside(p) {
			if right {
				tableIs(t, "parts", x.table, true)
			} else {
				keepsAll(t, "parts", x.table)
			}
		}
		for _, x := range []impl.Table{{}, {Next: 7}, tableOf(3, 15)} {
			opens(t, "parts", x, p, right)
		}
	}
}

func TestOpenOfWhatIsNotAsTold(t *testing.T) {
	for _, k := range askedEdits() {
		p := matterOf(0, 2, 3)
		k.edit(&p)
		for _, x := range []impl.Table{{}, {Next: 7}, tableOf(3, 3), tableOf(4, 15), {Next: mostId - 1}} {
			opens(t, k.what, x, p, k.right)
		}
	}
}

// A matter's own Unit may be any number, and stays as it is; a part's may not.
func TestAnyUnitOfAMatter(t *testing.T) {
	for _, unit := range append([]int{-1, 0, 1, 247, 248}, farNumbers...) {
		for i := range askKinds {
			p := matterOf(0, i, 3)
			p.Unit = unit
			x, id, ok := impl.TableOpen(impl.Table{Next: 7}, p.Source, p.Tag, unit, p.Req, p.Parts)
			p.Id = 7
			want := impl.Table{Next: 8, List: []impl.Pend{p}}
			if !ok || id != 7 || !equalTable(x, want) || !impl.TableOk(x) || impl.Waiting(x) != len(p.Parts) {
				t.Errorf("opened under the unit %d: %v, %d, %v; %d wait", unit, x, id, ok, impl.Waiting(x))
			}
			for _, y := range beside(p) {
				tableIs(t, fmt.Sprint("Unit ", unit), y.table, true)
			}
			for j := range len(p.Parts) {
				wrong := clonePend(p)
				for _, device := range []int{0, 248} {
					wrong.Parts[j].Unit = device
					keepsAll(t, fmt.Sprint("Unit of part ", j), impl.Table{Next: 8, List: []impl.Pend{wrong}})
					opens(t, fmt.Sprint("Unit of part ", j), impl.Table{Next: 7}, wrong, false)
				}
			}
			for _, order := range ordersOf(len(p.Parts)) {
				repliedAtTheLast(t, want, 0, order, answersTo(p))
			}
		}
	}
}

func TestOpenKnown(t *testing.T) {
	q := impl.Req{Kind: 3, At: 8, N: 4}
	list := []impl.Part{{Port: 0, Unit: 5, Req: impl.Req{Kind: 3, At: 8, N: 2}}, {Port: 1, Unit: 6, Req: impl.Req{Kind: 3, N: 2}}}
	x, id, ok := impl.TableOpen(impl.Table{}, 3, 44, 1, q, list)
	want := impl.Table{Next: 1, List: []impl.Pend{{Id: 0, Source: 3, Tag: 44, Unit: 1, Req: q, Parts: list, Has: []bool{false, false}, Told: []impl.Resp{{}, {}}}}}
	if !equalTable(x, want) || id != 0 || !ok {
		t.Errorf("opened %v, %d, %v", x, id, ok)
	}
	x, id, ok = impl.TableOpen(x, 3, 44, 1, q, list)
	want.List = append(want.List, want.List[0])
	want.Next, want.List[1].Id = 2, 1
	if !equalTable(x, want) || id != 1 || !ok {
		t.Errorf("opened the same once more: %v, %d, %v", x, id, ok)
	}
}

func TestOpenUpToTheMost(t *testing.T) {
	x := impl.Table{Next: 1000}
	for i := range mostOpen + 3 {
		p := matterOf(0, i, 1+i%8)
		x = opens(t, "one more", x, p, i < mostOpen)
	}
	if len(x.List) != mostOpen || x.Next != 1000+mostOpen {
		t.Errorf("%d are open, Next is %d", len(x.List), x.Next)
	}
}

func TestOpenAtTheEndOfIds(t *testing.T) {
	for i := range 10 {
		p := matterOf(0, i, 3)
		x := opens(t, "the last but one", impl.Table{Next: mostId - 2}, p, true)
		x = opens(t, "the last Id", x, p, true)
		if x.Next != mostId || x.List[1].Id != mostId-1 {
			t.Errorf("the last Id is %d, Next %d", x.List[1].Id, x.Next)
		}
		opens(t, "no Id is left", x, p, false)
		opens(t, "no Id is left", impl.Table{Next: mostId}, p, false)
		// it stays so when all are told
		for j, a := range answersTo(x.List[1]) {
			x, _ = impl.TableFill(x, mostId-1, j, a)
		}
		if len(x.List) != 1 || x.Next != mostId {
			t.Errorf("told: %v", x)
		}
		opens(t, "no Id is left", x, p, false)
	}
}

// A matter may have parts that are not of its question: Joined tells of that.
func TestPartsThatAreNotOfTheQuestion(t *testing.T) {
	p := matterOf(0, 2, 3)
	for i := range askKinds {
		q, _ := splitOf(i, 2)
		p.Req = q
		x := opens(t, "another question", impl.Table{}, p, true)
		var replies []impl.Reply
		for j, part := range p.Parts {
			x, replies = impl.TableFill(x, 0, j, fitting(part.Req))
		}
		want := clonePend(p)
		for j, part := range p.Parts {
			want.Told[j] = fitting(part.Req)
		}
		if !equalReplies(replies, []impl.Reply{slowReply(want)}) {
			t.Errorf("%v is replied %v", q, replies)
		}
		reads := q.Kind <= 4 || q.Kind == 23
		if reads && (len(replies) != 1 || replies[0].Resp.Fault != impl.FaultDevice && q.Kind != 3) {
			t.Errorf("%v is replied %v", q, replies)
		}
	}
}

// ordersOf gives all orders of n things.
func ordersOf(n int) [][]int {
	if n == 0 {
		return [][]int{nil}
	}
	var list [][]int
	for _, order := range ordersOf(n - 1) {
		for at := range n {
			list = append(list, slices.Insert(slices.Clone(order), at, n-1))
		}
	}
	return list
}

// repliedAtTheLast tells the parts of the matter at a place in this order, and wants a Reply just behind the last of them.
func repliedAtTheLast(t *testing.T, x impl.Table, at int, order []int, told []impl.Resp) {
	t.Helper()
	p, others := clonePend(x.List[at]), cloneTable(x)
	others.List = slices.Delete(others.List, at, at+1)
	for n, part := range order {
		p.Has[part], p.Told[part] = true, told[part]
		want := cloneTable(x)
		want.List[at] = clonePend(p)
		if n == len(order)-1 {
			x = fills(t, x, p.Id, part, told[part], others, slowReply(p))
			tableIs(t, "told all", x, true)
			for again := range order {
				fills(t, x, p.Id, again, told[again], others)
			}
			return
		}
		x = fills(t, x, p.Id, part, told[part], want)
		tableIs(t, "told some", x, true)
		fills(t, x, p.Id, part, told[part], want)
		fills(t, x, p.Id, part, impl.Resp{Kind: p.Parts[part].Req.Kind, Fault: 4}, want)
	}
}

func TestRepliedAtTheLastPartInWhateverOrder(t *testing.T) {
	for i := range askKinds {
		for n := 1; n <= 4; n++ {
			p := matterOf(0, i, n)
			for _, order := range ordersOf(len(p.Parts)) {
				for _, x := range beside(p) {
					repliedAtTheLast(t, x.table, x.at, order, answersTo(x.table.List[x.at]))
				}
			}
		}
	}
	p := matterOf(3, 0, 8)
	for k, order := range ordersOf(8) {
		if k%97 == 0 {
			repliedAtTheLast(t, impl.Table{Next: 4, List: []impl.Pend{p}}, 0, order, answersTo(p))
		}
	}
}

func TestAReplyKnown(t *testing.T) {
	q := impl.Req{Kind: 1, At: 5, N: 11}
	list := []impl.Part{{Port: 4, Unit: 9, Req: impl.Req{Kind: 1, At: 0, N: 3}}, {Port: 2, Unit: 8, Req: impl.Req{Kind: 1, At: 700, N: 8}}}
	first, second := impl.Resp{Kind: 1, Bits: []bool{true, false, true, false, false, false, false, false}}, impl.Resp{Kind: 1, Bits: allBits(8)}
	x, id, _ := impl.TableOpen(impl.Table{Next: 30}, 6, 77, 12, q, list)
	x, replies := impl.TableFill(x, id, 1, second)
	if len(replies) != 0 || impl.Waiting(x) != 1 || !equalResp(x.List[0].Told[1], second) {
		t.Errorf("told the second part: %v, %v", x, replies)
	}
	x, replies = impl.TableFill(x, id, 0, first)
	joined := impl.Resp{Kind: 1, Bits: []bool{true, false, true, true, true, true, true, true, true, true, true, false, false, false, false, false}}
	want := []impl.Reply{{Source: 6, Tag: 77, Req: q, Parts: list, Told: []impl.Resp{first, second}, Resp: joined}}
	if !equalTable(x, impl.Table{Next: 31}) || !equalReplies(replies, want) {
		t.Errorf("told the first part: %v, %v, not %v", x, replies, want)
	}
}

// Of faults the first by its place is told, whichever came first.
func TestFaultsAmongWhatWasTold(t *testing.T) {
	for i := range askKinds {
		for n := 1; n <= 3; n++ {
			p := matterOf(0, i, n)
			for mask := 1; mask < 1<<len(p.Parts); mask++ {
				told, first := answersTo(p), 0
				for j := range slices.Backward(told) {
					if mask>>j&1 == 1 {
						first = []int{2, 255, 11}[j]
						told[j] = impl.Resp{Kind: p.Req.Kind, Fault: first}
					}
				}
				for _, order := range ordersOf(len(told)) {
					repliedAtTheLast(t, impl.Table{Next: 1, List: []impl.Pend{p}}, 0, order, told)
					x, replies := impl.Table{Next: 1, List: []impl.Pend{p}}, []impl.Reply{}
					for _, part := range order {
						x, replies = impl.TableFill(x, 0, part, told[part])
					}
					if len(replies) != 1 || !equalResp(replies[0].Resp, impl.Resp{Kind: p.Req.Kind, Fault: first}) || !slices.EqualFunc(replies[0].Told, told, equalResp) {
						t.Errorf("told %v in the order %v: %v", told, order, replies)
					}
				}
			}
		}
	}
}

// A part that is told twice takes the first alone, and changes nothing, be it before or behind the others.
func TestAPartToldTwice(t *testing.T) {
	for i := range askKinds {
		p := matterOf(4, i, 3)
		first := answersTo(p)
		x := impl.Table{Next: 9, List: []impl.Pend{matterOf(1, 1, 2), p, matterOf(7, 3, 2)}}
		for part := range len(p.Parts) - 1 {
			x, _ = impl.TableFill(x, 4, part, first[part])
			for _, a := range []impl.Resp{first[part], fitting(p.Parts[part].Req), {Kind: p.Req.Kind, Fault: 6}, {}} {
				fills(t, x, 4, part, a, x)
			}
			if !equalResp(x.List[1].Told[part], first[part]) {
				t.Errorf("part %d was told %v, not %v", part, x.List[1].Told[part], first[part])
			}
		}
		last := len(p.Parts) - 1
		y, replies := impl.TableFill(x, 4, last, first[last])
		if len(replies) != 1 || !slices.EqualFunc(replies[0].Told, first, equalResp) {
			t.Errorf("told %v, it is replied %v", first, replies)
		}
		fills(t, y, 4, last, first[last], y)
	}
}

func TestFillOfWhatIsNotThere(t *testing.T) {
	for i := range 10 {
		x := tableOf(i, 6)
		for _, id := range append([]int{-1, x.Next, x.Next - 1, x.Next + 1, mostId, x.List[0].Id - 1, x.List[0].Id + 1, x.List[5].Id + 1}, farNumbers...) {
			for _, p := range x.List {
				for j, part := range p.Parts {
					fills(t, x, id, j, fitting(part.Req), x)
				}
			}
			fills(t, impl.Table{Next: 9}, id, 0, fitting(askAt(3, 1, 1)), impl.Table{Next: 9})
			fills(t, impl.Table{}, id, 0, fitting(askAt(3, 1, 1)), impl.Table{})
		}
		for _, p := range x.List {
			for _, part := range append([]int{-1, -2, len(p.Parts), len(p.Parts) + 1, 8, 9, 100}, farNumbers...) {
				if part >= 0 && part < len(p.Parts) {
					continue
				}
				for _, q := range p.Parts {
					fills(t, x, p.Id, part, fitting(q.Req), x)
				}
				fills(t, x, p.Id, part, impl.Resp{Kind: p.Req.Kind, Fault: 4}, x)
				fills(t, x, p.Id, part, impl.Resp{}, x)
			}
		}
	}
}

func TestFillOfWhatDoesNotSuit(t *testing.T) {
	for i := range 10 {
		x := tableOf(i, 10)
		for _, p := range x.List {
			for j, part := range p.Parts {
				for _, a := range notSuiting(part.Req) {
					doesNotSuit(t, part.Req, a)
					fills(t, x, p.Id, j, a, x)
				}
				for other, beside := range p.Parts {
					a := fitting(beside.Req)
					want, replies := slowFill(x, p.Id, j, a)
					if other == j || impl.Suits(part.Req, a) {
						fills(t, x, p.Id, j, a, want, replies...)
					} else {
						fills(t, x, p.Id, j, a, x)
					}
				}
			}
		}
	}
}

// What a matter is told leaves the others as they are, in their order, be it gone or not.
func TestOthersStayAsTheyAre(t *testing.T) {
	for i := range 20 {
		x := tableOf(i, mostOpen)
		for at, p := range x.List {
			y := x
			for part, has := range p.Has {
				if has {
					continue
				}
				a := answersTo(p)[part]
				want, replies := slowFill(y, p.Id, part, a)
				y = fills(t, y, p.Id, part, a, want, replies...)
			}
			others := cloneTable(x)
			others.List = slices.Delete(others.List, at, at+1)
			if !equalTable(y, others) {
				t.Errorf("when %v is told, %v is left", p, y)
			}
		}
	}
}

func TestWaitingKnown(t *testing.T) {
	x := impl.Table{Next: 9, List: []impl.Pend{toldSome(matterOf(1, 0, 5), 3), matterOf(2, 4, 1), toldSome(matterOf(8, 3, 8), 85)}}
	for _, k := range []struct {
		x    impl.Table
		want int
	}{
		{impl.Table{}, 0}, {impl.Table{Next: 5}, 0}, {x, 3 + 1 + 4}, {impl.Table{Next: 8, List: x.List}, 0}, {impl.Table{Next: -1}, 0},
		{impl.Table{Next: 9, List: x.List[:1]}, 3}, {impl.Table{Next: 9, List: x.List[1:2]}, 1}, {impl.Table{Next: 9, List: x.List[2:]}, 4},
		{impl.Table{Next: 9, List: []impl.Pend{x.List[1], x.List[0]}}, 0},
	} {
		if got := impl.Waiting(k.x); got != k.want {
			t.Errorf("Waiting of %v is %d, not %d", k.x, got, k.want)
		}
	}
	full := impl.Table{Next: 99}
	for i := range mostOpen {
		full.List = append(full.List, matterOf(i, 0, 8))
	}
	if got := impl.Waiting(full); got != 128 {
		t.Errorf("of 16 matters of 8 parts %d wait", got)
	}
}

// An asker looks at a table from without: what it opened and has no reply to, and what it has told of that.
type asker struct {
	table impl.Table
	open  map[int]impl.Pend
	next  int
}

func (k *asker) ask(t *testing.T, p impl.Pend) {
	t.Helper()
	x, id, ok := impl.TableOpen(k.table, p.Source, p.Tag, p.Unit, p.Req, p.Parts)
	if ok != (len(k.open) < mostOpen) || ok && id != k.next || !ok && (id != 0 || !equalTable(x, k.table)) {
		t.Fatalf("%d are open, and one more is asked: %d, %v", len(k.open), id, ok)
	}
	if ok {
		p.Id = id
		k.open[id] = clonePend(p)
		k.next++
	}
	k.table = x
}

// tell hands in an answer, and wants a Reply just when the last part is told.
func (k *asker) tell(t *testing.T, id int, part int, a impl.Resp) {
	t.Helper()
	p, there := k.open[id]
	counts := there && part >= 0 && part < len(p.Parts) && !p.Has[part] && impl.Suits(p.Parts[part].Req, a)
	if counts {
		p.Has[part], p.Told[part] = true, a
	}
	x, replies := impl.TableFill(k.table, id, part, a)
	switch last := counts && !slices.Contains(p.Has, false); {
	case last && !equalReplies(replies, []impl.Reply{slowReply(p)}):
		t.Fatalf("%v is replied %v", p, replies)
	case last:
		delete(k.open, id)
	case len(replies) != 0 || !counts && !equalTable(x, k.table):
		t.Fatalf("%d, %d, %v changes %v to %v, %v", id, part, a, k.table, x, replies)
	}
	k.table = x
}

// stillRight wants that the table is right, and has just what is open.
func (k *asker) stillRight(t *testing.T) {
	t.Helper()
	waiting := 0
	for _, p := range k.table.List {
		if !equalPend(p, k.open[p.Id]) {
			t.Fatalf("%v is open, not %v", p, k.open[p.Id])
		}
		for _, has := range p.Has {
			if !has {
				waiting++
			}
		}
	}
	if !impl.TableOk(k.table) || len(k.table.List) != len(k.open) || k.table.Next != k.next || impl.Waiting(k.table) != waiting {
		t.Fatalf("the table is %v, while %v is open", k.table, k.open)
	}
}

func TestEachMatterIsRepliedToOnce(t *testing.T) {
	for seed := range uint32(200) {
		b := sampleBytes(seed, 500)
		next := []int{0, 7, mostId - 600}[seed%3]
		k := asker{impl.Table{Next: next}, map[int]impl.Pend{}, next}
		for i := 0; i+2 < len(b); i += 3 {
			if b[i] < 70 {
				k.ask(t, matterOf(0, int(b[i+1]), 1+int(b[i+2])%8))
				k.stillRight(t)
				continue
			}
			id, part := k.next-1-int(b[i+1])%20, int(b[i+2])%9
			var a impl.Resp
			if p, there := k.open[id]; there {
				a = answersTo(p)[part%len(p.Parts)]
			}
			if b[i]%8 == 0 {
				a = impl.Resp{Kind: k.open[id].Req.Kind, Fault: int(b[i])}
			}
			k.tell(t, id, part, a)
			k.stillRight(t)
		}
		for _, p := range cloneTable(k.table).List {
			for part, a := range answersTo(p) {
				k.tell(t, p.Id, part, a)
			}
		}
		k.stillRight(t)
		if len(k.open) != 0 {
			t.Fatalf("%v have no reply", k.open)
		}
	}
}

// playTable moves a table by what bytes tell, and wants each time what the chapter's words tell.
func playTable(t *testing.T, b []byte) {
	t.Helper()
	x := impl.Table{Next: len(b) * 3}
	for i, c := range b {
		if c%3 == 0 {
			p := matterOf(0, int(c)+i%3, 1+int(c)/3%8)
			p.Source, p.Tag, p.Unit = int(c)-9, i, farNumbers[int(c)/3%len(farNumbers)]
			_, _, ok := slowOpen(x, p)
			x = opens(t, "played", x, p, ok)
			continue
		}
		if len(x.List) == 0 {
			continue
		}
		p := x.List[int(c)/3%len(x.List)]
		part := (int(c) + i) % (len(p.Parts) + 1)
		a := answersTo(p)[part%len(p.Parts)]
		if c > 230 {
			a = impl.Resp{Kind: p.Req.Kind, Fault: int(c)}
		}
		want, replies := slowFill(x, p.Id, part, a)
		x = fills(t, x, p.Id, part, a, want, replies...)
		tableIs(t, "played", x, true)
	}
}

func TestTablesOfSamples(t *testing.T) {
	for seed := range uint32(200) {
		playTable(t, sampleBytes(seed, 60+int(seed)%80))
	}
}

func FuzzTable(f *testing.F) {
	for _, b := range sampleLists() {
		f.Add(b[:min(len(b), 300)])
	}
	f.Fuzz(func(t *testing.T, b []byte) { playTable(t, b[:min(len(b), 300)]) })
}

// What the functions of chapter 13 are handed, and what they answer.
type (
	tableArgs struct {
		Table impl.Table
		Req   impl.Req
		Parts []impl.Part
		Id    int
		Part  int
		Resp  impl.Resp
	}
	tableAnswer struct {
		Table   impl.Table
		Replies []impl.Reply
		Id      int
		Ok      bool
	}
)

func askOpen(a tableArgs) tableAnswer {
	x, id, ok := impl.TableOpen(a.Table, 1, 2, 3, a.Req, a.Parts)
	return tableAnswer{Table: x, Id: id, Ok: ok}
}

func askFill(a tableArgs) tableAnswer {
	x, replies := impl.TableFill(a.Table, a.Id, a.Part, a.Resp)
	return tableAnswer{Table: x, Replies: replies}
}

func askTable(a tableArgs) tableAnswer {
	return tableAnswer{Ok: impl.TableOk(a.Table), Id: impl.Waiting(a.Table)}
}

// memoryTables gives tables with matters of every kind, right and not.
func memoryTables() []impl.Table {
	list := []impl.Table{{}, {Next: -1}, {Next: mostId}, tableOf(0, 17)}
	for i := range len(askKinds) {
		few, wrong, many := tableOf(i, 3), tableOf(i, 3), tableOf(i, 16)
		wrong.List[1].Id = wrong.List[0].Id
		list = append(list, few, wrong, many, impl.Table{Next: 1, List: []impl.Pend{matterOf(0, i, 3)}})
	}
	return list
}

// memoryFills gives what parts of the first matters may be told, and what they may not.
func memoryFills(x impl.Table) []tableArgs {
	list := []tableArgs{{Table: x, Id: -1}, {Table: x, Id: mostId, Resp: impl.Resp{Kind: 3, Words: []int{1}, Bits: []bool{true}}}}
	for _, p := range x.List[:min(3, len(x.List))] {
		for part, a := range answersTo(p) {
			list = append(list, tableArgs{Table: x, Id: p.Id, Part: part, Resp: a})
		}
		list = append(list, tableArgs{Table: x, Id: p.Id, Resp: impl.Resp{Kind: p.Req.Kind, Fault: 2}}, tableArgs{Table: x, Id: p.Id, Resp: impl.Resp{Kind: 7, Words: []int{1}, Bits: []bool{true}}})
	}
	return list
}

func TestTablesAnswerNewMemory(t *testing.T) {
	for _, x := range memoryTables() {
		sharesNothing(t, "TableOk or Waiting", tableArgs{Table: x}, askTable)
		for i := range askKinds {
			q, list := splitOf(i, 4)
			sharesNothing(t, "TableOpen", tableArgs{Table: x, Req: q, Parts: list}, askOpen)
		}
		sharesNothing(t, "TableOpen, refused", tableArgs{Table: x, Req: impl.Req{Kind: 16, At: -1, Words: []int{1, 2}}, Parts: many(9).Parts}, askOpen)
		for _, args := range memoryFills(x) {
			sharesNothing(t, "TableFill", args, askFill)
		}
	}
}

// What an argument shares within itself, or with another one, its answer does not.
func TestWhatTablesShare(t *testing.T) {
	for i := range askKinds {
		q, _ := splitOf(i, 1)
		part := impl.Part{Port: 1, Unit: 2, Req: q}
		p := impl.Pend{Source: 1, Unit: 1, Req: q, Parts: []impl.Part{part, part, part}, Has: []bool{true, true, false}, Told: []impl.Resp{fitting(q), {}, {}}}
		p.Told[1] = p.Told[0]
		other, wrong := p, p
		other.Id, wrong.Id = 3, -1
		for _, first := range []impl.Pend{p, wrong} {
			args := tableArgs{Table: impl.Table{Next: 9, List: []impl.Pend{first, other}}, Req: q, Parts: p.Parts, Id: 3, Part: 2, Resp: p.Told[0]}
			staysApart(t, "TableOpen", args, askOpen)
			staysApart(t, "TableFill", args, askFill)
			args.Part = 1
			staysApart(t, "TableFill, refused", args, askFill)
			args.Parts = nil
			staysApart(t, "TableOpen, refused", args, askOpen)
			// answers that are what was asked share no memory with it
			args.Table.List[0].Told[0].Words, args.Table.List[0].Told[0].Bits = q.Words, q.Bits
			staysApart(t, "TableFill", args, askFill)
		}
	}
}

// What is answered hangs on the arguments alone: asked again, and in another order, it is the same.
func TestTablesKeepNothing(t *testing.T) {
	var all []tableArgs
	for _, x := range memoryTables() {
		all = append(all, memoryFills(x)...)
	}
	ask := func() (out []string) {
		for _, a := range all {
			a.Req, a.Parts = splitOf(a.Part, 2)
			out = append(out, fmt.Sprint(askTable(a), askOpen(a), askFill(a)))
		}
		return out
	}
	first := ask()
	for range 5 {
		slices.Reverse(all)
		again := ask()
		slices.Reverse(first)
		if !slices.Equal(first, again) {
			t.Fatal("asked in another order, other things are answered")
		}
	}
}
