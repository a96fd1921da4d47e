package tests

import (
	"fmt"
	"math"
	"slices"
	"testing"

	"loop.example/g00129/impl"
)

// A right rule from which others are made by setting a field.
var plainRule = impl.Rule{Unit: 9, Space: 2, Lo: 10, Hi: 19, Port: 1, To: 5}

// ruleOf gives a rule of unit 9 about these places of a space.
func ruleOf(space int, lo int, hi int, port int, to int, shift int) impl.Rule {
	return impl.Rule{Unit: 9, Space: space, Lo: lo, Hi: hi, Port: port, To: to, Shift: shift}
}

// slowSum is a and b, and false where that passes the end of what 32 bits hold.
func slowSum(a int, b int) (int, bool) {
	const far = 1 << 31
	return a + b, -far < a && a < far && -far < b && b < far
}

func slowWord(n int) bool { return n >= 0 && n <= 65535 }

// slowRule tells whether a rule is as chapter 10 tells it.
func slowRule(r impl.Rule) bool {
	lo, small := slowSum(r.Lo, r.Shift)
	hi, smallToo := slowSum(r.Hi, r.Shift)
	return r.Unit >= 1 && r.Unit <= 247 && r.Space >= 0 && r.Space <= 3 && slowWord(r.Lo) && slowWord(r.Hi) && r.Lo <= r.Hi &&
		r.Port >= 0 && r.Port <= 5 && r.To >= 1 && r.To <= 247 && small && smallToo && slowWord(lo) && slowWord(hi)
}

// slowRules is RulesOk as chapter 10 words it: each pair of rules is asked.
func slowRules(l []impl.Rule) bool {
	for i, a := range l {
		if !slowRule(a) {
			return false
		}
		for _, b := range l[:i] {
			if a.Unit == b.Unit && a.Space == b.Space && max(a.Lo, b.Lo) <= min(a.Hi, b.Hi) {
				return false
			}
		}
	}
	return len(l) <= 24
}

// slowRuleAt is RuleAt as chapter 10 words it.
func slowRuleAt(l []impl.Rule, unit int, space int, place int) int {
	for i, r := range l {
		if r.Unit == unit && r.Space == space && place >= r.Lo && place <= r.Hi {
			return i
		}
	}
	return -1
}

// touched is the places that a right question touches; of ReadWrite those it reads, then those it writes.
func touched(q impl.Req) []int {
	var places []int
	for i := range map[int]int{1: q.N, 2: q.N, 3: q.N, 4: q.N, 5: 1, 6: 1, 15: len(q.Bits), 16: len(q.Words), 22: 1, 23: q.N}[q.Kind] {
		places = append(places, q.At+i)
	}
	if q.Kind == 23 {
		for i := range q.Words {
			places = append(places, q.WAt+i)
		}
	}
	return places
}

// slowGrow is the part with the i-th place of q at its end.
func slowGrow(p impl.Part, q impl.Req, i int) impl.Part {
	switch q.Kind {
	case 1, 2, 3, 4:
		p.Req.N++
	case 5, 15:
		p.Req.Bits = append(p.Req.Bits, q.Bits[i])
	case 6, 16:
		p.Req.Words = append(p.Req.Words, q.Words[i])
	case 22:
		p.Req.Words = q.Words
	}
	return p
}

// slowParts is Parts as chapter 10 words it, place by place.
func slowParts(l []impl.Rule, unit int, q impl.Req) ([]impl.Part, int) {
	if !slowRules(l) || !impl.ReqOk(q) {
		return nil, 3
	}
	if !slices.ContainsFunc(l, func(r impl.Rule) bool { return r.Unit == unit }) {
		return nil, 10
	}
	var at []int
	for _, place := range touched(q) {
		at = append(at, slowRuleAt(l, unit, spaceOf(q.Kind), place))
	}
	if slices.Contains(at, -1) || q.Kind == 23 && slices.Min(at) != slices.Max(at) {
		return nil, 2
	}
	if q.Kind == 23 {
		r := l[at[0]]
		return []impl.Part{{Port: r.Port, Unit: r.To, Req: impl.Req{Kind: 23, At: q.At + r.Shift, N: q.N, WAt: q.WAt + r.Shift, Words: q.Words}}}, 0
	}
	var list []impl.Part
	for i, place := range at {
		if i == 0 || place != at[i-1] {
			r := l[place]
			list = append(list, impl.Part{Port: r.Port, Unit: r.To, Req: impl.Req{Kind: q.Kind, At: q.At + i + r.Shift}})
		}
		list[len(list)-1] = slowGrow(list[len(list)-1], q, i)
	}
	if len(list) > 8 {
		return nil, 3
	}
	return list, 0
}

func equalPart(a impl.Part, b impl.Part) bool {
	return a.Port == b.Port && a.Unit == b.Unit && equalReq(a.Req, b.Req)
}

func equalParts(a []impl.Part, b []impl.Part) bool { return slices.EqualFunc(a, b, equalPart) }

func cloneParts(list []impl.Part) []impl.Part {
	out := slices.Clone(list)
	for i := range out {
		out[i].Req.Words, out[i].Req.Bits = slices.Clone(list[i].Req.Words), slices.Clone(list[i].Req.Bits)
	}
	return out
}

// parts wants these parts of q.
func parts(t *testing.T, l []impl.Rule, unit int, q impl.Req, want ...impl.Part) {
	t.Helper()
	if list, fault := impl.Parts(l, unit, q); fault != 0 || !equalParts(list, want) {
		t.Errorf("Parts(%v, %d, %v) is %v, %d, not %v", l, unit, q, list, fault, want)
	}
}

// noParts wants this fault and no parts.
func noParts(t *testing.T, l []impl.Rule, unit int, q impl.Req, want int) {
	t.Helper()
	if list, fault := impl.Parts(l, unit, q); fault != want || len(list) != 0 {
		t.Errorf("Parts(%v, %d, %v) is %v, %d, not %d", l, unit, q, list, fault, want)
	}
}

// cutRules gives rules of unit 9 that cut so many places of each of these spaces into runs of this length, the
// last one shorter; each to a device of its own, moved by what shift tells of its number and its first place.
func cutRules(spaces []int, size int, length int, shift func(i int, lo int) int) []impl.Rule {
	var l []impl.Rule
	for _, space := range spaces {
		for lo := 0; lo < size; lo += length {
			i := len(l)
			l = append(l, ruleOf(space, lo, min(lo+length, size)-1, i%6, 1+i*10, shift(i, lo)))
		}
	}
	return l
}

func noShift(int, int) int { return 0 }

// mixedShift leaves some rules, and moves others up, down as far as they go, and half as far.
func mixedShift(i int, lo int) int { return []int{0, 1007, -lo, -lo / 2}[i%4] }

// routeRules gives right rules that cut places into one, two and several runs.
func routeRules() [][]impl.Rule {
	all := []int{0, 1, 2, 3}
	list := [][]impl.Rule{
		nil,
		{plainRule},
		cutRules(all, 65536, 65536, noShift),
		cutRules(all, 65536, 32768, noShift),
		cutRules(all, 64, 64, noShift),
		cutRules(all, 64, 32, mixedShift),
		cutRules(all, 64, 13, noShift),
		cutRules(all, 60, 10, mixedShift),
		cutRules([]int{0}, 24, 1, mixedShift),
		cutRules([]int{1}, 24, 1, noShift),
		cutRules([]int{2}, 24, 1, mixedShift),
		cutRules([]int{3}, 24, 1, mixedShift),
		cutRules([]int{2}, 64, 7, mixedShift),
		cutRules([]int{0, 2}, 2000, 200, mixedShift),
		cutRules([]int{1, 3}, 2000, 249, mixedShift),
		{ruleOf(2, 0, 9, 0, 5, 0), ruleOf(2, 11, 19, 0, 5, 0)}, // a hole at 10
		{ruleOf(0, 65530, 65535, 5, 247, -65530), ruleOf(0, 65500, 65529, 5, 247, 6)},
	}
	for _, l := range slices.Clone(list) {
		back := slices.Clone(l)
		slices.Reverse(back)
		turned := append(slices.Clone(l[len(l)/2:]), l[:len(l)/2]...)
		list = append(list, back, turned)
	}
	return list
}

// routeQuestions gives right questions of every kind round places where rules begin and end.
func routeQuestions() []impl.Req {
	var list []impl.Req
	for _, k := range askKinds {
		for _, at := range []int{0, 1, 6, 9, 10, 12, 20, 31, 32, 59, 63, 1990, 32767, 65499, 65530, 65535} {
			for _, n := range []int{1, 2, 3, 8, 10, 20, 33, 61, 64, 100, k.most} {
				if q := askAt(k.kind, at, n); n <= k.most && impl.ReqOk(q) {
					list = append(list, q)
				}
			}
		}
	}
	for _, at := range []int{0, 5, 9, 10} {
		for _, wat := range []int{0, 5, 9, 10} {
			for _, n := range []int{1, 5, 10, 11} {
				list = append(list, bothAt(at, n, wat, 1), bothAt(at, 1, wat, n), bothAt(at, n, wat, n))
			}
		}
	}
	return list
}

func TestRouteNames(t *testing.T) {
	if got := []int{impl.MaxRules, impl.MaxPorts, impl.MaxParts}; !slices.Equal(got, []int{24, 6, 8}) {
		t.Errorf("the constants are %v", got)
	}
}

// rulesAre wants that RulesOk tells this, and that the chapter's words do.
func rulesAre(t *testing.T, l []impl.Rule, want bool) {
	t.Helper()
	if got := impl.RulesOk(l); got != want || slowRules(l) != want {
		t.Errorf("RulesOk of %v is %v, as worded %v, not %v", l, got, slowRules(l), want)
	}
}

func TestHowManyRules(t *testing.T) {
	rulesAre(t, nil, true)
	rulesAre(t, []impl.Rule{}, true)
	for n := 1; n <= 30; n++ {
		l := cutRules([]int{3}, n, 1, noShift)
		if len(l) != n {
			t.Fatalf("%d rules, not %d", len(l), n)
		}
		for i := range l {
			l[i].To = 1
		}
		rulesAre(t, l, n <= 24)
		rulesAre(t, append(make([]impl.Rule, 0, 100), l...), n <= 24)
	}
	rulesAre(t, make([]impl.Rule, 25), false)
	rulesAre(t, make([]impl.Rule, 100000), false)
	// the 25th is right, and behind the length of the list
	l := cutRules([]int{3}, 24, 1, noShift)
	rulesAre(t, append(l, impl.Rule{})[:24], true)
}

func TestEachFieldOfARule(t *testing.T) {
	ends := []int{math.MinInt, math.MinInt + 1, -1 << 32, -65536, -65535, -11, -10, -1, 0, 1, 2, 3, 4, 5, 6, 9, 10, 11, 19, 20, 246, 247, 248, 255, 256,
		32767, 65515, 65516, 65517, 65525, 65526, 65534, 65535, 65536, 65537, 1 << 32, 1<<32 + 1, math.MaxInt - 65535, math.MaxInt - 1, math.MaxInt}
	fields := []struct {
		name   string
		field  func(*impl.Rule) *int
		lo, hi int
	}{
		{"Unit", func(r *impl.Rule) *int { return &r.Unit }, 1, 247},
		{"Space", func(r *impl.Rule) *int { return &r.Space }, 0, 3},
		{"Lo", func(r *impl.Rule) *int { return &r.Lo }, 0, 19},
		{"Hi", func(r *impl.Rule) *int { return &r.Hi }, 10, 65535},
		{"Port", func(r *impl.Rule) *int { return &r.Port }, 0, 5},
		{"To", func(r *impl.Rule) *int { return &r.To }, 1, 247},
		{"Shift", func(r *impl.Rule) *int { return &r.Shift }, -10, 65516},
	}
	other := impl.Rule{Unit: 200, Space: 1, Lo: 3, Hi: 3, To: 1}
	for _, f := range fields {
		for _, n := range ends {
			r := plainRule
			*f.field(&r) = n
			right := n >= f.lo && n <= f.hi
			rulesAre(t, []impl.Rule{r}, right)
			rulesAre(t, []impl.Rule{r, other}, right)
			rulesAre(t, []impl.Rule{other, r}, right)
		}
	}
	rulesAre(t, []impl.Rule{{}}, false)
}

func TestPlacesOfARule(t *testing.T) {
	for _, k := range []struct {
		lo, hi, shift int
		right         bool
	}{
		{0, 65535, 0, true}, {0, 65535, 1, false}, {0, 65535, -1, false}, {0, 0, 0, true}, {65535, 65535, 0, true}, {5, 5, 0, true}, {6, 5, 0, false}, {65535, 0, 0, false},
		{0, 0, 65535, true}, {0, 0, 65536, false}, {0, 0, -1, false}, {65535, 65535, -65535, true}, {65535, 65535, -65536, false}, {65535, 65535, 1, false},
		{3, 9, -3, true}, {3, 9, -4, false}, {3, 9, 65526, true}, {3, 9, 65527, false}, {0, 1, 65534, true}, {0, 1, 65535, false}, {1, 65535, -1, true}, {0, 65534, 1, true},
		{65534, 65535, -65534, true}, {65534, 65535, -65535, false}, {0, 65536, 0, false}, {-1, 5, 0, false}, {-1, 5, 1, false}, {1, 65536, -1, false}, {6, 5, 9, false}, {70000, 70001, -65536, false},
		{0, 9, math.MaxInt, false}, {1, 9, math.MaxInt, false}, {65535, 65535, math.MaxInt, false}, {0, 9, math.MinInt, false}, {65535, 65535, math.MinInt, false},
		{math.MinInt, math.MaxInt, 0, false}, {math.MaxInt, math.MaxInt, math.MinInt, false}, {math.MinInt, math.MinInt, math.MinInt, false}, {math.MaxInt, math.MaxInt, 2 - math.MaxInt, false},
	} {
		for space := range 4 {
			rulesAre(t, []impl.Rule{ruleOf(space, k.lo, k.hi, 0, 1, k.shift)}, k.right)
		}
	}
}

func TestRulesWithAPlaceInCommon(t *testing.T) {
	places := []int{0, 1, 2, 3, 4, 65535}
	for _, a := range places {
		for _, b := range places[slices.Index(places, a):] {
			for _, c := range places {
				for _, d := range places[slices.Index(places, c):] {
					apart := b < c || d < a
					first, second := ruleOf(2, a, b, 0, 1, 0), ruleOf(2, c, d, 1, 2, 0)
					rulesAre(t, []impl.Rule{first, second}, apart)
					far := ruleOf(2, 1000, 2000, 0, 1, 0)
					rulesAre(t, []impl.Rule{first, ruleOf(1, 0, 9, 0, 1, 0), second}, apart)
					if b < 1000 && d < 1000 {
						rulesAre(t, []impl.Rule{second, far, first}, apart)
						rulesAre(t, []impl.Rule{far, first, second}, apart)
					}
					other := second
					other.Unit = 10
					rulesAre(t, []impl.Rule{first, other}, true)
					rulesAre(t, []impl.Rule{other, first}, true)
					other = second
					other.Space = 3
					rulesAre(t, []impl.Rule{first, other}, true)
					rulesAre(t, []impl.Rule{other, first}, true)
				}
			}
		}
	}
	for _, l := range routeRules() {
		rulesAre(t, l, true)
		for _, r := range l {
			rulesAre(t, append(slices.Clone(l), r), false)
			rulesAre(t, append([]impl.Rule{r}, l...), false)
			r.Lo = r.Hi
			rulesAre(t, append(slices.Clone(l), r), false)
			r.Unit++
			rulesAre(t, append(slices.Clone(l), r), len(l) < 24)
		}
	}
	// what two rules lead to may be the same place
	rulesAre(t, []impl.Rule{ruleOf(0, 0, 9, 0, 1, 0), ruleOf(0, 10, 19, 0, 1, -10)}, true)
	// one that lies in another one, with a third between them by their beginnings
	rulesAre(t, []impl.Rule{ruleOf(0, 0, 99, 0, 1, 0), ruleOf(0, 200, 300, 0, 1, 0), ruleOf(0, 50, 60, 0, 1, 0)}, false)
	rulesAre(t, []impl.Rule{ruleOf(0, 50, 60, 0, 1, 0), ruleOf(0, 200, 300, 0, 1, 0), ruleOf(0, 0, 99, 0, 1, 0)}, false)
}

func TestRulesOfSamples(t *testing.T) {
	right := 0
	for seed := range uint32(3000) {
		b := sampleBytes(240+seed, 30)
		var l []impl.Rule
		for i := range 2 + int(b[0])%4 {
			x := b[1+5*i:]
			lo := int(x[0]) % 40
			l = append(l, impl.Rule{Unit: 1 + int(x[1])%2, Space: int(x[2]) % 2, Lo: lo, Hi: lo + int(x[3])%12, To: 1, Shift: int(x[4])%41 - 2})
		}
		rulesAre(t, l, slowRules(l))
		if slowRules(l) {
			right++
		}
	}
	if right < 300 || right > 2700 {
		t.Errorf("%d samples are right", right)
	}
}

// ruleAt wants that RuleAt tells this, and that the chapter's words do.
func ruleAt(t *testing.T, l []impl.Rule, unit int, space int, place int, want int) {
	t.Helper()
	if got := impl.RuleAt(l, unit, space, place); got != want || slowRuleAt(l, unit, space, place) != want {
		t.Errorf("RuleAt(%v, %d, %d, %d) is %d, as worded %d, not %d", l, unit, space, place, got, slowRuleAt(l, unit, space, place), want)
	}
}

func TestRuleAt(t *testing.T) {
	l := []impl.Rule{ruleOf(2, 10, 19, 0, 1, 0), ruleOf(2, 20, 20, 1, 2, 5), ruleOf(0, 10, 30, 2, 3, -10), {Unit: 8, Space: 2, Lo: 0, Hi: 65535, To: 4}}
	for _, k := range [][4]int{
		{9, 2, 10, 0}, {9, 2, 19, 0}, {9, 2, 15, 0}, {9, 2, 9, -1}, {9, 2, 20, 1}, {9, 2, 21, -1}, {9, 0, 9, -1}, {9, 0, 10, 2}, {9, 0, 20, 2}, {9, 0, 30, 2}, {9, 0, 31, -1},
		{9, 2, 25, -1}, {9, 0, 0, -1}, // where a place is moved to is not asked
		{9, 1, 15, -1}, {9, 3, 15, -1}, {9, 4, 15, -1}, {9, -1, 15, -1}, {10, 2, 15, -1}, {0, 2, 15, -1}, {1, 2, 15, -1}, {5, 2, 15, -1},
		{8, 2, 0, 3}, {8, 2, 65535, 3}, {8, 2, 65536, -1}, {8, 2, -1, -1}, {8, 0, 15, -1},
		{9, 2, math.MinInt, -1}, {9, 2, math.MaxInt, -1}, {math.MaxInt, 2, 15, -1}, {math.MinInt, 2, 15, -1}, {9, math.MaxInt, 15, -1}, {9, math.MinInt, 15, -1},
	} {
		ruleAt(t, l, k[0], k[1], k[2], k[3])
		ruleAt(t, nil, k[0], k[1], k[2], -1)
		ruleAt(t, append(slices.Clone(l), l...)[:2], k[0], k[1], k[2], slowRuleAt(l[:2], k[0], k[1], k[2]))
	}
	for _, l := range routeRules() {
		for i, r := range l {
			ruleAt(t, l, 9, r.Space, r.Lo, i)
			ruleAt(t, l, 9, r.Space, r.Hi, i)
			for _, place := range []int{r.Lo - 1, r.Hi + 1} {
				ruleAt(t, l, 9, r.Space, place, slowRuleAt(l, 9, r.Space, place))
			}
		}
	}
}

// RuleAt does not ask whether the rules are right: each has what it says.
func TestRuleAtOfRulesThatAreNotRight(t *testing.T) {
	both := []impl.Rule{ruleOf(2, 0, 9, 0, 1, 0), ruleOf(2, 5, 15, 1, 2, 0), ruleOf(2, 0, 20, 2, 3, 0)}
	for place, want := range map[int]int{0: 0, 4: 0, 5: 0, 9: 0, 10: 1, 15: 1, 16: 2, 20: 2, 21: -1} {
		ruleAt(t, both, 9, 2, place, want)
	}
	slices.Reverse(both)
	ruleAt(t, both, 9, 2, 5, 0)
	wrong := []impl.Rule{
		{Unit: 0, Space: 2, Lo: 0, Hi: 9, To: 1}, {Unit: 248, Space: 2, Lo: 0, Hi: 9, To: 1}, {Unit: 9, Space: 4, Lo: 0, Hi: 9, To: 1}, {Unit: 9, Space: 2, Lo: 9, Hi: 0, To: 1},
		{Unit: 9, Space: 2, Lo: 30, Hi: 39, To: 0}, {Unit: 9, Space: 2, Lo: 40, Hi: 49, To: 1, Port: 6}, {Unit: 9, Space: 2, Lo: 50, Hi: 59, To: 1, Shift: -51},
	}
	ruleAt(t, wrong, 0, 2, 5, 0)
	ruleAt(t, wrong, 248, 2, 5, 1)
	ruleAt(t, wrong, 9, 4, 5, 2)
	ruleAt(t, wrong, 9, 2, 0, -1)
	ruleAt(t, wrong, 9, 2, 5, -1)
	ruleAt(t, wrong, 9, 2, 9, -1)
	ruleAt(t, wrong, 9, 2, 35, 4)
	ruleAt(t, wrong, 9, 2, 45, 5)
	ruleAt(t, wrong, 9, 2, 55, 6)
	many := append(make([]impl.Rule, 99), plainRule)
	ruleAt(t, many, 9, 2, 10, 99)
	ruleAt(t, many, 0, 0, 0, 0)
}

func TestPartsKnown(t *testing.T) {
	l := []impl.Rule{ruleOf(2, 10, 19, 1, 6, -10), ruleOf(2, 0, 9, 0, 5, 0), ruleOf(0, 4, 99, 2, 8, 0), ruleOf(0, 0, 3, 2, 7, 100), ruleOf(1, 0, 9, 3, 7, 50), ruleOf(3, 8, 8, 4, 247, -8)}
	parts(t, l, 9, impl.Req{Kind: 3, At: 8, N: 4}, impl.Part{Port: 0, Unit: 5, Req: impl.Req{Kind: 3, At: 8, N: 2}}, impl.Part{Port: 1, Unit: 6, Req: impl.Req{Kind: 3, At: 0, N: 2}})
	parts(t, l, 9, impl.Req{Kind: 3, At: 10, N: 10}, impl.Part{Port: 1, Unit: 6, Req: impl.Req{Kind: 3, N: 10}})
	parts(t, l, 9, impl.Req{Kind: 3, At: 9, N: 1}, impl.Part{Unit: 5, Req: impl.Req{Kind: 3, At: 9, N: 1}})
	parts(t, l, 9, impl.Req{Kind: 1, At: 2, N: 98}, impl.Part{Port: 2, Unit: 7, Req: impl.Req{Kind: 1, At: 102, N: 2}}, impl.Part{Port: 2, Unit: 8, Req: impl.Req{Kind: 1, At: 4, N: 96}})
	parts(t, l, 9, impl.Req{Kind: 2, At: 3, N: 7}, impl.Part{Port: 3, Unit: 7, Req: impl.Req{Kind: 2, At: 53, N: 7}})
	parts(t, l, 9, impl.Req{Kind: 4, At: 8, N: 1}, impl.Part{Port: 4, Unit: 247, Req: impl.Req{Kind: 4, N: 1}})
	parts(t, l, 9, impl.Req{Kind: 5, At: 3, Bits: []bool{true}}, impl.Part{Port: 2, Unit: 7, Req: impl.Req{Kind: 5, At: 103, Bits: []bool{true}}})
	parts(t, l, 9, impl.Req{Kind: 5, At: 4, Bits: []bool{false}}, impl.Part{Port: 2, Unit: 8, Req: impl.Req{Kind: 5, At: 4, Bits: []bool{false}}})
	parts(t, l, 9, impl.Req{Kind: 6, At: 12, Words: []int{77}}, impl.Part{Port: 1, Unit: 6, Req: impl.Req{Kind: 6, At: 2, Words: []int{77}}})
	parts(t, l, 9, impl.Req{Kind: 15, At: 2, Bits: []bool{true, false, true}},
		impl.Part{Port: 2, Unit: 7, Req: impl.Req{Kind: 15, At: 102, Bits: []bool{true, false}}}, impl.Part{Port: 2, Unit: 8, Req: impl.Req{Kind: 15, At: 4, Bits: []bool{true}}})
	parts(t, l, 9, impl.Req{Kind: 16, At: 9, Words: []int{1, 2, 3}},
		impl.Part{Port: 0, Unit: 5, Req: impl.Req{Kind: 16, At: 9, Words: []int{1}}}, impl.Part{Port: 1, Unit: 6, Req: impl.Req{Kind: 16, At: 0, Words: []int{2, 3}}})
	parts(t, l, 9, impl.Req{Kind: 22, At: 19, Words: []int{242, 37}}, impl.Part{Port: 1, Unit: 6, Req: impl.Req{Kind: 22, At: 9, Words: []int{242, 37}}})
	parts(t, l, 9, impl.Req{Kind: 23, At: 18, N: 2, WAt: 10, Words: []int{4, 5}}, impl.Part{Port: 1, Unit: 6, Req: impl.Req{Kind: 23, At: 8, N: 2, WAt: 0, Words: []int{4, 5}}})
}

// Two rules that touch are two runs, even where they lead to one device and move alike.
func TestEachRuleHasItsOwnRun(t *testing.T) {
	l := []impl.Rule{ruleOf(2, 0, 9, 1, 5, 3), ruleOf(2, 10, 19, 1, 5, 3)}
	parts(t, l, 9, impl.Req{Kind: 3, N: 20}, impl.Part{Port: 1, Unit: 5, Req: impl.Req{Kind: 3, At: 3, N: 10}}, impl.Part{Port: 1, Unit: 5, Req: impl.Req{Kind: 3, At: 13, N: 10}})
	noParts(t, l, 9, impl.Req{Kind: 23, At: 9, N: 2, WAt: 0, Words: []int{1}}, impl.FaultAt)
}

// eachPlaceOnce wants that parts are right questions of q's Kind that touch each of its places once, in order, and
// read and write there what q does.
func eachPlaceOnce(t *testing.T, l []impl.Rule, q impl.Req, list []impl.Part) {
	t.Helper()
	var places []int
	var bits []bool
	var words []int
	for _, p := range list {
		if !impl.ReqOk(p.Req) || p.Req.Kind != q.Kind {
			t.Errorf("the part %v of %v is not right", p, q)
		}
		// the next place of q has a rule, by which the part must go
		next := touched(q)[len(places)]
		r := l[slowRuleAt(l, 9, spaceOf(q.Kind), next)]
		if p.Port != r.Port || p.Unit != r.To {
			t.Errorf("the part %v of %v goes elsewhere than %v", p, q, r)
		}
		for _, place := range touched(p.Req) {
			if place < r.Lo+r.Shift || place > r.Hi+r.Shift {
				t.Errorf("the part %v of %v asks for what %v has not", p, q, r)
			}
			places = append(places, place-r.Shift)
		}
		bits, words = append(bits, p.Req.Bits...), append(words, p.Req.Words...)
	}
	if !slices.Equal(places, touched(q)) || !slices.Equal(bits, q.Bits) || !slices.Equal(words, q.Words) {
		t.Errorf("the parts %v of %v touch %v, and write %v, %v", list, q, places, bits, words)
	}
}

func TestPartsAsWorded(t *testing.T) {
	counts := map[int]map[int]int{}
	for _, l := range routeRules() {
		for _, q := range routeQuestions() {
			for _, unit := range []int{9, 10} {
				want, wantFault := slowParts(l, unit, q)
				list, fault := impl.Parts(l, unit, q)
				if fault != wantFault || !equalParts(list, want) {
					t.Fatalf("Parts(%v, %d, %v) is %v, %d, not %v, %d", l, unit, q, list, fault, want, wantFault)
				}
				if fault == 0 {
					eachPlaceOnce(t, l, q, list)
				}
				if counts[q.Kind] == nil {
					counts[q.Kind] = map[int]int{}
				}
				counts[q.Kind][len(list)]++
			}
		}
	}
	// that no kind went untried: into one part, two and several, where it can be parted
	for _, k := range askKinds {
		runs := []int{1, 2, 3, 5, 8}
		if k.most == 1 || k.kind == 23 {
			runs = []int{1}
		}
		for _, n := range runs {
			if counts[k.kind][n] == 0 {
				t.Errorf("no question of Kind %d has %d parts", k.kind, n)
			}
		}
	}
}

func TestPartsOfEveryQuestion(t *testing.T) {
	whole, halves := cutRules([]int{0, 1, 2, 3}, 65536, 65536, noShift), cutRules([]int{0, 1, 2, 3}, 65536, 40000, noShift)
	for _, q := range rightQuestions() {
		list, fault := impl.Parts(whole, 9, q)
		if fault != 0 || len(list) != 1 || !equalReq(list[0].Req, q) {
			t.Errorf("of a rule that has all places, the parts of %v are %v, %d", q, list, fault)
		}
		want, wantFault := slowParts(halves, 9, q)
		if list, fault := impl.Parts(halves, 9, q); fault != wantFault || !equalParts(list, want) {
			t.Errorf("the parts of %v are %v, %d, not %v, %d", q, list, fault, want, wantFault)
		}
	}
}

// In whatever order rules stand in l, the parts are the same.
func TestPartsGoByPlaces(t *testing.T) {
	l := []impl.Rule{ruleOf(2, 0, 4, 0, 1, 0), ruleOf(2, 5, 9, 1, 2, 5), ruleOf(2, 10, 14, 2, 3, -10), ruleOf(2, 15, 19, 3, 4, 0), ruleOf(0, 0, 19, 4, 5, 0)}
	other := impl.Rule{Unit: 3, Space: 2, Lo: 0, Hi: 99, To: 9}
	q := impl.Req{Kind: 16, At: 2, Words: sampleWords(200, 16)}
	want, _ := slowParts(l, 9, q)
	if len(want) != 4 {
		t.Fatalf("%d parts", len(want))
	}
	var permute func(head []impl.Rule, rest []impl.Rule)
	permute = func(head []impl.Rule, rest []impl.Rule) {
		if len(rest) == 0 {
			parts(t, head, 9, q, want...)
		}
		for i, r := range rest {
			permute(append(slices.Clone(head), r), slices.Delete(slices.Clone(rest), i, i+1))
		}
	}
	permute(nil, append(slices.Clone(l), other))
}

// faultRules gives rules of unit 9 with nine runs of one place each from 0 on, a hole at 9, and ten more places.
func faultRules() []impl.Rule {
	return append(cutRules([]int{2}, 9, 1, noShift), ruleOf(2, 10, 19, 0, 1, 0), ruleOf(0, 0, 19, 0, 1, 0))
}

func TestFaultsInTheirOrder(t *testing.T) {
	right := faultRules()
	wrong := append(slices.Clone(right), ruleOf(2, 19, 19, 0, 1, 0))
	few := impl.Req{Kind: 3, N: 1}
	hole := impl.Req{Kind: 3, At: 9, N: 1}
	many := impl.Req{Kind: 3, N: 9}
	both := impl.Req{Kind: 3, N: 10}
	none := impl.Req{Kind: 3, N: 126}
	for _, k := range []struct {
		what  string
		l     []impl.Rule
		unit  int
		q     impl.Req
		fault int
	}{
		{"nothing wrong", right, 9, few, 0},
		{"rules", wrong, 9, few, 3},
		{"rules and the question", wrong, 9, none, 3},
		{"rules and the unit", wrong, 8, few, 3},
		{"rules and a place", wrong, 9, hole, 3},
		{"rules and too many", wrong, 9, many, 3},
		{"rules, the question and the unit", wrong, 8, none, 3},
		{"the question", right, 9, none, 3},
		{"the question and the unit", right, 8, none, 3},
		{"the question and a place", right, 9, impl.Req{Kind: 3, At: 9}, 3},
		{"the question and a unit that is none", right, -1, none, 3},
		{"the unit", right, 8, few, 10},
		{"the unit and a place", right, 8, hole, 10},
		{"the unit and too many", right, 8, many, 10},
		{"the unit, a place and too many", right, 8, both, 10},
		{"no rules at all", nil, 9, few, 10},
		{"no rules, and the question", nil, 9, none, 3},
		{"a place", right, 9, hole, 2},
		{"a place and too many", right, 9, both, 2},
		{"a place far behind too many", right, 9, impl.Req{Kind: 3, N: 125}, 2},
		{"too many", right, 9, many, 3},
		{"a space that the unit has not", right, 9, impl.Req{Kind: 4, N: 1}, 2},
		{"another space that it has not", right, 9, impl.Req{Kind: 2, N: 1}, 2},
		{"one too many rules", cutRules([]int{2}, 25, 1, noShift), 8, hole, 3},
	} {
		if list, fault := impl.Parts(k.l, k.unit, k.q); fault != k.fault || (fault != 0 && len(list) != 0) {
			t.Errorf("%s: Parts is %v, %d, not %d", k.what, list, fault, k.fault)
		}
		if _, fault := slowParts(k.l, k.unit, k.q); fault != k.fault {
			t.Errorf("%s: as worded, the fault is %d, not %d", k.what, fault, k.fault)
		}
	}
	for _, q := range wrongQuestions() {
		for _, unit := range []int{9, 8} {
			noParts(t, right, unit, q, impl.FaultValue)
			noParts(t, wrong, unit, q, impl.FaultValue)
			noParts(t, nil, unit, q, impl.FaultValue)
		}
	}
	for _, unit := range []int{0, 1, 8, 10, 247, 248, 255, 256, -9, 9 + 256, 9 + 1<<32, math.MaxInt, math.MinInt} {
		noParts(t, right, unit, few, impl.FaultPath)
	}
}

func TestPlacesWithoutARule(t *testing.T) {
	l := []impl.Rule{ruleOf(2, 10, 19, 0, 1, 0), ruleOf(2, 21, 29, 0, 1, 0), ruleOf(0, 0, 65535, 0, 1, 0), {Unit: 8, Space: 2, Lo: 0, Hi: 65535, To: 1}}
	for at := 0; at <= 32; at++ {
		for n := 1; n <= 33; n++ {
			q := impl.Req{Kind: 3, At: at, N: n}
			if inside := at >= 10 && at+n <= 20 || at >= 21 && at+n <= 30; inside {
				parts(t, l, 9, q, impl.Part{Unit: 1, Req: q})
			} else {
				noParts(t, l, 9, q, impl.FaultAt)
			}
		}
	}
	for _, at := range []int{9, 20, 30, 65535} {
		for _, kind := range []int{6, 22} {
			noParts(t, l, 9, askAt(kind, at, 1), impl.FaultAt)
		}
		noParts(t, l, 9, askAt(16, at, 1), impl.FaultAt)
	}
	noParts(t, l, 8, askAt(5, 0, 1), impl.FaultAt)
	noParts(t, l, 8, askAt(15, 0, 3), impl.FaultAt)
}

func TestEightPartsAndNine(t *testing.T) {
	l := cutRules([]int{0, 2}, 12, 1, noShift)
	inputs := cutRules([]int{1, 3}, 12, 1, mixedShift)
	for _, kind := range []int{1, 2, 3, 4, 15, 16} {
		for n := 1; n <= 12; n++ {
			for at := 0; at+n <= 12; at++ {
				rules := l
				if kind == 2 || kind == 4 {
					rules = inputs
				}
				q := askAt(kind, at, n)
				want, _ := slowParts(rules, 9, q)
				if n > 8 {
					noParts(t, rules, 9, q, impl.FaultValue)
				} else if parts(t, rules, 9, q, want...); len(want) != n {
					t.Errorf("%v has %d parts", q, len(want))
				}
			}
		}
	}
}

func TestReadWriteGoesToOneRule(t *testing.T) {
	l := []impl.Rule{ruleOf(2, 10, 19, 3, 6, -7), ruleOf(2, 0, 9, 2, 5, 40), ruleOf(2, 20, 29, 2, 5, 40), ruleOf(0, 0, 65535, 0, 1, 0)}
	for at := 0; at <= 31; at++ {
		for wat := 0; wat <= 31; wat++ {
			for _, n := range []int{1, 2, 5, 10, 11} {
				for _, w := range []int{1, 2, 9, 10, 11} {
					q := bothAt(at, n, wat, w)
					r := at / 10
					if r > 2 || (at+n-1)/10 != r || wat/10 != r || (wat+w-1)/10 != r {
						noParts(t, l, 9, q, impl.FaultAt)
						continue
					}
					want := impl.Part{Port: 2, Unit: 5, Req: impl.Req{Kind: 23, At: at + 40, N: n, WAt: wat + 40, Words: q.Words}}
					if r == 1 {
						want = impl.Part{Port: 3, Unit: 6, Req: impl.Req{Kind: 23, At: at - 7, N: n, WAt: wat - 7, Words: q.Words}}
					}
					parts(t, l, 9, q, want)
				}
			}
		}
	}
	whole := []impl.Rule{ruleOf(2, 0, 65535, 0, 1, 0)}
	for _, q := range []impl.Req{bothAt(65411, 125, 65415, 121), bothAt(0, 125, 65415, 121), bothAt(65411, 125, 0, 121)} {
		parts(t, whole, 9, q, impl.Part{Unit: 1, Req: q})
	}
	// where no one rule has all, more than eight of them are no other fault
	noParts(t, cutRules([]int{2}, 24, 1, noShift), 9, bothAt(0, 12, 0, 12), impl.FaultAt)
}

func TestMaskWordIsOnePart(t *testing.T) {
	l := cutRules([]int{2}, 24, 1, mixedShift)
	for at := range 24 {
		q := impl.Req{Kind: 22, At: at, Words: []int{at, 65535 - at}}
		parts(t, l, 9, q, impl.Part{Port: l[at].Port, Unit: l[at].To, Req: impl.Req{Kind: 22, At: at + l[at].Shift, Words: []int{at, 65535 - at}}})
	}
	noParts(t, l, 9, impl.Req{Kind: 22, At: 24, Words: []int{1, 2}}, impl.FaultAt)
}

func TestShiftToTheEnds(t *testing.T) {
	down, up := []impl.Rule{ruleOf(2, 65526, 65535, 0, 1, -65526)}, []impl.Rule{ruleOf(2, 0, 9, 0, 1, 65526)}
	for _, kind := range []int{3, 6, 16, 22} {
		n := map[int]int{3: 10, 6: 1, 16: 10, 22: 1}[kind]
		q := askAt(kind, 65526, n)
		moved := q
		moved.At = 0
		parts(t, down, 9, q, impl.Part{Unit: 1, Req: moved})
		q = askAt(kind, 0, n)
		moved = q
		moved.At = 65526
		parts(t, up, 9, q, impl.Part{Unit: 1, Req: moved})
	}
	parts(t, down, 9, impl.Req{Kind: 23, At: 65526, N: 10, WAt: 65530, Words: []int{1, 2}}, impl.Part{Unit: 1, Req: impl.Req{Kind: 23, At: 0, N: 10, WAt: 4, Words: []int{1, 2}}})
	parts(t, up, 9, impl.Req{Kind: 23, At: 9, N: 1, WAt: 0, Words: []int{1, 2}}, impl.Part{Unit: 1, Req: impl.Req{Kind: 23, At: 65535, N: 1, WAt: 65526, Words: []int{1, 2}}})
}

// joins wants this of Joined.
func joins(t *testing.T, q impl.Req, list []impl.Part, told []impl.Resp, want impl.Resp) {
	t.Helper()
	if a := impl.Joined(q, list, told); !equalResp(a, want) {
		t.Errorf("Joined(%v, %v, %v) is %v, not %v", q, list, told, a, want)
	}
}

// asks is the questions of parts.
func asks(list []impl.Part) []impl.Req {
	var out []impl.Req
	for _, p := range list {
		out = append(out, p.Req)
	}
	return out
}

// What one device that has all places tells to the parts, joined, is what it tells to the question.
func TestJoinedIsAsOneDevice(t *testing.T) {
	d := sampleDevice(201, 64, 64, 64, 64)
	tried := map[int]int{}
	for _, length := range []int{64, 32, 31, 30, 22, 16, 13, 12, 11} {
		for _, q := range deviceQuestions(64) {
			l := cutRules([]int{spaceOf(q.Kind)}, 64, length, noShift)
			list, fault := impl.Parts(l, 9, q)
			if fault != 0 {
				continue
			}
			is, told := impl.Apply(d, asks(list))
			then, want := slowServe(d, q)
			joins(t, q, list, told, want)
			if !impl.Suits(q, want) || want.Fault != 0 || !equalDevice(is, then) {
				t.Errorf("%v, asked in parts, leaves %v, not %v", q, is, then)
			}
			tried[q.Kind] = max(tried[q.Kind], len(list))
		}
	}
	for _, k := range askKinds {
		if least := min(k.most, 5); tried[k.kind] < least && k.kind != 23 || tried[k.kind] < 1 {
			t.Errorf("of Kind %d only %d parts were tried", k.kind, tried[k.kind])
		}
	}
}

// placesOf lays what devices have together as the rules of unit 9 tell it: one device with all places.
func placesOf(l []impl.Rule, devices map[[2]int]impl.Device) impl.Device {
	whole := impl.DeviceNew(64)
	for _, r := range l {
		d := devices[[2]int{r.Port, r.To}]
		for place := r.Lo; place <= r.Hi; place++ {
			switch r.Space {
			case 0:
				whole.Coils[place] = d.Coils[place+r.Shift]
			case 1:
				whole.Inputs[place] = d.Inputs[place+r.Shift]
			case 2:
				whole.Holding[place] = d.Holding[place+r.Shift]
			case 3:
				whole.Words[place] = d.Words[place+r.Shift]
			}
		}
	}
	return whole
}

// Several devices, each asked by its own numbers, are together as the one that the rules make of them.
func TestSeveralDevicesAreAsOne(t *testing.T) {
	for _, length := range []int{8, 11, 16, 21, 33} {
		for _, q := range deviceQuestions(64) {
			// each run lies at the end of its device, or, moved up or down, at its beginning or elsewhere
			l := cutRules([]int{spaceOf(q.Kind)}, 64, length, noShift)
			devices := map[[2]int]impl.Device{}
			for i, r := range l {
				l[i].Shift = []int{0, -r.Lo, 63 - r.Hi, min(63-r.Hi, 3) - min(r.Lo, 1)}[i%4]
				devices[[2]int{r.Port, r.To}] = sampleDevice(uint32(210+10*i), 64, 64, 64, 64)
			}
			list, fault := impl.Parts(l, 9, q)
			if fault != 0 {
				continue
			}
			before := placesOf(l, devices)
			var told []impl.Resp
			for _, p := range list {
				key := [2]int{p.Port, p.Unit}
				is, a := impl.Serve(devices[key], p.Req)
				devices[key] = is
				told = append(told, a)
			}
			then, want := slowServe(before, q)
			joins(t, q, list, told, want)
			if after := placesOf(l, devices); !equalDevice(after, then) || !impl.Suits(q, want) {
				t.Errorf("%v, by %v, leaves %v, not %v", q, l, after, then)
			}
		}
	}
}

// toldAll is what devices tell to the parts where place i of the question has the i-th of these bits and words.
func toldAll(q impl.Req, list []impl.Part, bits []bool, words []int) []impl.Resp {
	var told []impl.Resp
	for _, p := range list {
		a := fitting(p.Req)
		switch q.Kind {
		case 1, 2:
			copy(a.Bits, bits[:p.Req.N])
			bits = bits[p.Req.N:]
		case 3, 4, 23:
			copy(a.Words, words)
			words = words[p.Req.N:]
		}
		told = append(told, a)
	}
	return told
}

// slowWhole is what a device tells to q that has these bits and words there.
func slowWhole(q impl.Req, bits []bool, words []int) impl.Resp {
	a := fitting(q)
	switch q.Kind {
	case 1, 2:
		copy(a.Bits, bits[:q.N])
	case 3, 4, 23:
		copy(a.Words, words)
	}
	return a
}

func TestJoinedOfManyPlaces(t *testing.T) {
	bits, words := sampleBits(220, 2000), sampleWords(221, 125)
	for _, l := range routeRules() {
		for _, q := range routeQuestions() {
			list, fault := impl.Parts(l, 9, q)
			if fault != 0 {
				continue
			}
			want := slowWhole(q, bits, words)
			joins(t, q, list, toldAll(q, list, bits, words), want)
			if !impl.Suits(q, want) {
				t.Errorf("%v does not suit %v", want, q)
			}
		}
	}
}

// Each part's answer has whole bytes; what fills them up is left out, and the whole is filled up.
func TestJoinedBitsThatAreNoWholeBytes(t *testing.T) {
	for _, kind := range []int{1, 2} {
		for first := 1; first <= 17; first++ {
			for second := 1; second <= 17; second++ {
				n := first + second + 1
				l := []impl.Rule{ruleOf(kind-1, 0, first-1, 0, 1, 0), ruleOf(kind-1, first, n-2, 0, 2, 0), ruleOf(kind-1, n-1, 99, 0, 3, 0)}
				q := impl.Req{Kind: kind, N: n}
				list, _ := impl.Parts(l, 9, q)
				for _, bits := range [][]bool{allBits(n), make([]bool, n), sampleBits(uint32(222+n), n)} {
					want := impl.Resp{Kind: kind, Bits: slices.Clone(bits)}
					for len(want.Bits)%8 != 0 {
						want.Bits = append(want.Bits, false)
					}
					joins(t, q, list, toldAll(q, list, bits, nil), want)
				}
			}
		}
	}
}

// partedQuestions gives a question of each kind with its parts, as many as may be.
func partedQuestions() (list []impl.Req, all [][]impl.Part) {
	for _, k := range askKinds {
		l := cutRules([]int{k.space}, 40, 5, mixedShift)
		q := askAt(k.kind, 7, min(k.most, 33))
		if k.kind == 23 {
			q = bothAt(7, 3, 5, 4)
		}
		found, _ := slowParts(l, 9, q)
		list, all = append(list, q), append(all, found)
	}
	return list, all
}

func TestJoinedOfEachKind(t *testing.T) {
	bits, words := sampleBits(223, 33), sampleWords(224, 33)
	questions, all := partedQuestions()
	for i, q := range questions {
		want := slowWhole(q, bits, words)
		joins(t, q, all[i], toldAll(q, all[i], bits, words), want)
		if want.Fault != 0 || len(all[i]) != map[bool]int{true: 7, false: 1}[askKinds[i].most > 1 && q.Kind != 23] {
			t.Errorf("%v has the parts %v", q, all[i])
		}
	}
	joins(t, impl.Req{Kind: 15, At: 2, Bits: allBits(3)}, []impl.Part{{Unit: 1, Req: impl.Req{Kind: 15, At: 102, Bits: allBits(2)}}, {Unit: 2, Req: impl.Req{Kind: 15, At: 4, Bits: allBits(1)}}},
		[]impl.Resp{{Kind: 15, At: 102, N: 2}, {Kind: 15, At: 4, N: 1}}, impl.Resp{Kind: 15, At: 2, N: 3})
	joins(t, impl.Req{Kind: 5, At: 3, Bits: []bool{true}}, []impl.Part{{Unit: 1, Req: impl.Req{Kind: 5, At: 103, Bits: []bool{true}}}}, []impl.Resp{{Kind: 5, At: 103, Bits: []bool{true}}}, impl.Resp{Kind: 5, At: 3, Bits: []bool{true}})
	joins(t, impl.Req{Kind: 22, At: 3, Words: []int{1, 2}}, []impl.Part{{Unit: 1, Req: impl.Req{Kind: 22, Words: []int{1, 2}}}}, []impl.Resp{{Kind: 22, Words: []int{1, 2}}}, impl.Resp{Kind: 22, At: 3, Words: []int{1, 2}})
}

func TestJoinedTellsTheFirstFault(t *testing.T) {
	questions, all := partedQuestions()
	for i, q := range questions {
		right := toldAll(q, all[i], allBits(33), sampleWords(225, 33))
		for first := range right {
			for _, fault := range []int{1, 2, 4, 6, 10, 11, 255} {
				told := slices.Clone(right)
				told[first] = impl.Resp{Kind: q.Kind, Fault: fault}
				want := impl.Resp{Kind: q.Kind, Fault: fault}
				joins(t, q, all[i], told, want)
				for later := first + 1; later < len(told); later++ {
					told[later] = impl.Resp{Kind: q.Kind, Fault: 256 - fault}
					joins(t, q, all[i], told, want)
				}
			}
		}
	}
}

func TestJoinedOfAnotherLength(t *testing.T) {
	questions, all := partedQuestions()
	for i, q := range questions {
		list, told := all[i], toldAll(q, all[i], allBits(33), sampleWords(226, 33))
		want := impl.Resp{Kind: q.Kind, Fault: impl.FaultDevice}
		joins(t, q, list, nil, want)
		joins(t, q, list, []impl.Resp{}, want)
		joins(t, q, list, told[:len(told)-1], want)
		joins(t, q, list, told[1:], want)
		joins(t, q, list, append(slices.Clone(told), told[0]), want)
		joins(t, q, list, append(slices.Clone(told), impl.Resp{}), want)
		joins(t, q, list[:len(list)-1], told, want)
		joins(t, q, append(slices.Clone(list), list[0]), told, want)
		joins(t, q, nil, told, want)
		joins(t, q, nil, nil, want)
		joins(t, q, []impl.Part{}, []impl.Resp{}, want)
		joins(t, q, list[:0], told[:0], want)
		// told of another length are not as wanted, whatever they tell
		faults := slices.Repeat([]impl.Resp{{Kind: q.Kind, Fault: 6}}, len(list)+1)
		joins(t, q, list, faults, want)
		joins(t, q, list, faults[:len(list)-1], want)
		joins(t, q, nil, faults, want)
		joins(t, q, list, faults[:len(list)], impl.Resp{Kind: q.Kind, Fault: 6})
	}
}

// notSuiting gives answers that do not suit this part.
func notSuiting(q impl.Req) []impl.Resp {
	list := []impl.Resp{{}, {Kind: q.Kind}, {Kind: q.Kind, Fault: 256}, {Kind: q.Kind, Fault: -1}, {Kind: q.Kind, Fault: 6, At: 1}, {Kind: q.Kind%4 + 1, Fault: 6}, {Kind: q.Kind + 128, Fault: 6}, {Kind: 7, Fault: 6}}
	at, n := fitting(q), fitting(q)
	at.At++
	n.N++
	more := fitting(q)
	more.Words = append(more.Words, 0)
	bits := fitting(q)
	bits.Bits = append(bits.Bits, make([]bool, 8)...)
	list = append(list, at, n, more, bits)
	if q.Kind <= 2 && q.N%8 != 0 {
		over := fitting(q)
		over.Bits[len(over.Bits)-1] = true
		list = append(list, over)
	}
	if q.Kind == 5 {
		list = append(list, impl.Resp{Kind: 5, At: q.At, Bits: []bool{!q.Bits[0]}})
	}
	if q.Kind == 6 || q.Kind == 22 {
		other := fitting(q)
		other.Words[0] ^= 1
		list = append(list, other)
	}
	return list
}

func TestJoinedOfWhatDoesNotSuit(t *testing.T) {
	questions, all := partedQuestions()
	for i, q := range questions {
		list, right := all[i], toldAll(q, all[i], allBits(33), sampleWords(227, 33))
		want := impl.Resp{Kind: q.Kind, Fault: impl.FaultDevice}
		for at, p := range list {
			for _, wrong := range notSuiting(p.Req) {
				doesNotSuit(t, p.Req, wrong)
				told := slices.Clone(right)
				told[at] = wrong
				joins(t, q, list, told, want)
				// one that does not suit is not as wanted, whatever others tell
				for other := range told {
					if other != at {
						told[other] = impl.Resp{Kind: q.Kind, Fault: 6}
					}
				}
				joins(t, q, list, told, want)
			}
			broken := slices.Clone(list)
			broken[at].Req.At = -1
			joins(t, q, broken, right, want)
		}
	}
}

// To what is no question nothing is told.
func TestJoinedOfAWrongQuestion(t *testing.T) {
	questions, all := partedQuestions()
	for _, q := range wrongQuestions() {
		joins(t, q, nil, nil, impl.Resp{})
		joins(t, q, []impl.Part{{Unit: 1, Req: q}}, []impl.Resp{fitting(askAt(3, 0, 1))}, impl.Resp{})
		for i, right := range questions {
			joins(t, q, all[i], toldAll(right, all[i], allBits(33), sampleWords(228, 33)), impl.Resp{})
			joins(t, q, all[i], slices.Repeat([]impl.Resp{{Kind: right.Kind, Fault: 6}}, len(all[i])), impl.Resp{})
		}
	}
}

// slowSuitsRead is Suits as chapter 4 words it, of what reads and an answer without a Fault.
func slowSuitsRead(q impl.Req, a impl.Resp) bool {
	if q.Kind > 2 {
		return len(a.Words) == q.N
	}
	whole := q.N
	for whole%8 != 0 {
		whole++
	}
	return len(a.Bits) == whole && !slices.Contains(a.Bits[q.N:], true)
}

// slowJoined is Joined as chapter 10 words it, of a right question and parts that were told what suits them, and no
// Fault; FaultDevice, where what is joined is no answer to q, since the parts are not of it.
func slowJoined(q impl.Req, list []impl.Part, told []impl.Resp) impl.Resp {
	if q.Kind != 23 && q.Kind > 4 {
		return fitting(q)
	}
	a := impl.Resp{Kind: q.Kind}
	for i, p := range list {
		if q.Kind > 2 {
			a.Words = append(a.Words, told[i].Words...)
			continue
		}
		for n := 0; n < p.Req.N && n < len(told[i].Bits); n++ {
			a.Bits = append(a.Bits, told[i].Bits[n])
		}
	}
	for len(a.Bits)%8 != 0 {
		a.Bits = append(a.Bits, false)
	}
	if !slowSuitsRead(q, a) {
		return impl.Resp{Kind: q.Kind, Fault: impl.FaultDevice}
	}
	return a
}

// joinsSuiting wants of Joined what slowJoined tells, and that it suits q; it tells whether that is no Fault.
func joinsSuiting(t *testing.T, q impl.Req, list []impl.Part, told []impl.Resp) bool {
	t.Helper()
	a, want := impl.Joined(q, list, told), slowJoined(q, list, told)
	if !equalResp(a, want) {
		t.Errorf("Joined(%v, %v, %v) is %v, not %v", q, list, told, a, want)
	}
	if !impl.Suits(q, a) {
		t.Errorf("Joined(%v, %v, %v) is %v, which does not suit", q, list, told, a)
	}
	return a.Fault == 0
}

// joinQuestions gives right questions of every kind, from the fewest to the most places.
func joinQuestions() []impl.Req {
	var list []impl.Req
	for _, k := range askKinds {
		for _, n := range []int{1, 2, 3, 7, 8, 9, 16, 33, 124, 125, 126, k.most} {
			if n <= k.most {
				list = append(list, askAt(k.kind, 7, n))
			}
		}
	}
	return list
}

// partLists gives lists of parts of this question: whole, cut by rules, doubled, and without the first or the last.
func partLists(q impl.Req) [][]impl.Part {
	lists := [][]impl.Part{{{Port: 2, Unit: 2, Req: q}}}
	for _, length := range []int{3, 5, 50, 300} {
		if cut, fault := slowParts(cutRules([]int{spaceOf(q.Kind)}, length*20, length, noShift), 9, q); fault == 0 {
			lists = append(lists, cut)
		}
	}
	for _, l := range slices.Clone(lists) {
		lists = append(lists, append(cloneParts(l), l...))
		if len(l) > 1 {
			lists = append(lists, l[1:], l[:len(l)-1])
		}
	}
	return lists
}

// Whatever is told to a question suits it, of whatever list: one of it, of another one of its Kind, or of another Kind.
func TestJoinedSuitsWhateverTheList(t *testing.T) {
	bits, words := sampleBits(232, 4000), sampleWords(233, 4000)
	joined, refused := map[int]int{}, map[int]int{}
	for _, other := range joinQuestions() {
		for _, list := range partLists(other) {
			for _, told := range [][]impl.Resp{toldAll(other, list, bits, words), toldAll(other, list, allBits(4000), words), toldAll(other, list, make([]bool, 4000), words)} {
				for _, q := range joinQuestions() {
					if joinsSuiting(t, q, list, told) {
						joined[q.Kind]++
					} else {
						refused[q.Kind]++
					}
				}
			}
		}
	}
	for _, k := range askKinds {
		reads := k.kind <= 4 || k.kind == 23
		if joined[k.kind] == 0 || (refused[k.kind] > 0) != reads {
			t.Errorf("of Kind %d, %d were joined and %d were not", k.kind, joined[k.kind], refused[k.kind])
		}
	}
}

func TestJoinedOfAListThatIsNotOfTheQuestion(t *testing.T) {
	one := func(kind int, at int, n int) impl.Part { return impl.Part{Port: 2, Unit: 2, Req: askAt(kind, at, n)} }
	bits := func(on ...int) []bool {
		b := make([]bool, 8)
		for _, i := range on {
			b[i] = true
		}
		return b
	}
	for _, k := range []struct {
		what string
		q    impl.Req
		list []impl.Part
		told []impl.Resp
	}{
		{"one bit for 126", askAt(2, 3, 126), []impl.Part{one(2, 3, 1)}, []impl.Resp{{Kind: 2, Bits: bits()}}},
		{"six bits for 125", askAt(1, 9, 125), []impl.Part{one(1, 9, 5), one(1, 14, 1)}, []impl.Resp{{Kind: 1, Bits: bits(0, 4)}, {Kind: 1, Bits: bits()}}},
		{"five words for one", askAt(4, 6, 1), []impl.Part{one(4, 6, 3), one(4, 9, 2)}, []impl.Resp{{Kind: 4, Words: []int{256, 0, 1}}, {Kind: 4, Words: []int{65535, 65535}}}},
		{"coils for words", askAt(3, 0, 4), []impl.Part{one(1, 0, 4)}, []impl.Resp{{Kind: 1, Bits: bits(0)}}},
		{"words for coils", askAt(1, 0, 4), []impl.Part{one(3, 0, 4)}, []impl.Resp{{Kind: 3, Words: []int{1, 2, 3, 4}}}},
		{"a coil that was written for one that is read", askAt(1, 0, 1), []impl.Part{one(5, 0, 1)}, []impl.Resp{fitting(askAt(5, 0, 1))}},
		{"one word for two", bothAt(0, 2, 0, 1), []impl.Part{{Unit: 1, Req: bothAt(0, 1, 0, 1)}}, []impl.Resp{{Kind: 23, Words: []int{1}}}},
		{"a true bit behind the last one", askAt(1, 0, 3), []impl.Part{one(1, 0, 5)}, []impl.Resp{{Kind: 1, Bits: bits(3)}}},
	} {
		for i, p := range k.list {
			if !impl.Suits(p.Req, k.told[i]) {
				t.Errorf("%s: what is told does not suit the part %v", k.what, p)
			}
		}
		joins(t, k.q, k.list, k.told, impl.Resp{Kind: k.q.Kind, Fault: impl.FaultDevice})
	}
}

// One more or one fewer than was asked for is told only where bits that fill up make it suit.
func TestJoinedOfOneMoreOrFewer(t *testing.T) {
	for _, kind := range []int{1, 2} {
		for n := 1; n <= 40; n++ {
			for m := 1; m <= 40; m++ {
				q, part := askAt(kind, 0, n), askAt(kind, 0, m)
				list, sameBytes := []impl.Part{{Unit: 1, Req: part}}, (n+7)/8 == (m+7)/8
				if got := joinsSuiting(t, q, list, []impl.Resp{fitting(part)}); got != (sameBytes && m <= n) {
					t.Errorf("%d true bits are joined for %d: %v", m, n, got)
				}
				none := impl.Resp{Kind: kind, Bits: make([]bool, (m+7)/8*8)}
				if got := joinsSuiting(t, q, list, []impl.Resp{none}); got != sameBytes {
					t.Errorf("%d false bits are joined for %d: %v", m, n, got)
				}
			}
		}
	}
	for _, kind := range []int{3, 4, 23} {
		for _, n := range []int{1, 2, 3, 63, 123, 124, 125} {
			for m := 1; m <= 125; m++ {
				q, part := askAt(kind, 0, n), askAt(kind, 0, m)
				if got := joinsSuiting(t, q, []impl.Part{{Unit: 1, Req: part}}, []impl.Resp{fitting(part)}); got != (m == n) {
					t.Errorf("%d words are joined for %d: %v", m, n, got)
				}
			}
		}
	}
}

// What is joined may be more than any answer has: of 2000 bits or 125 words, and of one more.
func TestJoinedPastTheMost(t *testing.T) {
	for _, k := range askKinds {
		if k.kind > 4 && k.kind != 23 {
			continue
		}
		whole, last := askAt(k.kind, 0, k.most-1), askAt(k.kind, k.most-1, 1)
		for times := range 4 {
			list, told := []impl.Part{{Unit: 1, Req: whole}}, []impl.Resp{fitting(whole)}
			for range times {
				list, told = append(list, impl.Part{Unit: 2, Req: last}), append(told, fitting(last))
			}
			// bits that are one too few are filled up
			want := times == 1 || times == 0 && k.kind <= 2
			if got := joinsSuiting(t, askAt(k.kind, 0, k.most), list, told); got != want {
				t.Errorf("of Kind %d, %d places and %d more are joined: %v", k.kind, k.most-1, times, got)
			}
		}
		many := slices.Repeat([]impl.Part{{Unit: 1, Req: whole}}, 500)
		if joinsSuiting(t, whole, many, slices.Repeat([]impl.Resp{fitting(whole)}, 500)) {
			t.Errorf("of Kind %d, 500 parts are joined for one", k.kind)
		}
	}
}

// A Fault comes first, and is told as it is, of whatever list.
func TestJoinedTellsAFaultOfAnotherList(t *testing.T) {
	for _, other := range joinQuestions() {
		list := []impl.Part{{Unit: 1, Req: other}, {Unit: 2, Req: other}}
		for _, told := range [][]impl.Resp{
			{fitting(other), {Kind: other.Kind, Fault: 6}},
			{{Kind: other.Kind, Fault: 6}, fitting(other)},
			{{Kind: other.Kind, Fault: 6}, {Kind: other.Kind, Fault: 2}},
		} {
			for _, q := range joinQuestions() {
				joins(t, q, list, told, impl.Resp{Kind: q.Kind, Fault: 6})
			}
		}
	}
}

// spoilRules writes over all rules and the room behind them.
func spoilRules(l []impl.Rule) {
	for i := range l[:cap(l)] {
		l[:cap(l)][i] = impl.Rule{Unit: 99}
	}
}

// spoilParts writes over all that parts have and the room behind them.
func spoilParts(list []impl.Part) {
	for _, p := range list {
		spoilReq(p.Req)
	}
	for i := range list[:cap(list)] {
		list[:cap(list)][i] = impl.Part{Unit: 99}
	}
}

// memoryRules gives right rules in and out of order, rules that are not right, and none.
func memoryRules() [][]impl.Rule {
	l := cutRules([]int{0, 1, 2, 3}, 30, 6, mixedShift)
	back := slices.Clone(l)
	slices.Reverse(back)
	return [][]impl.Rule{nil, l, back, append(slices.Clone(back), back[3]), append(slices.Clone(back), impl.Rule{}), append(slices.Clone(back), l[:15]...)}
}

// memoryAsks gives questions of every kind with one and with several parts, and such as have none.
func memoryAsks() []impl.Req {
	var list []impl.Req
	for _, k := range askKinds {
		list = append(list, askAt(k.kind, 3, 1), askAt(k.kind, 3, min(k.most, 25)), askAt(k.kind, 3, min(k.most, 60)))
	}
	return append(append(list, bothAt(6, 6, 6, 6), impl.Req{Kind: 15, N: 1, Bits: allBits(3)}, impl.Req{Kind: 16, N: 1, Words: []int{1, 2}}), wrongQuestions()...)
}

func TestRulesAreLeft(t *testing.T) {
	marked := impl.Rule{Unit: 77, Space: 2, Lo: 1, Hi: 2, To: 3}
	for _, plain := range memoryRules() {
		l, same := withRoom(plain, marked, marked, marked)
		impl.RulesOk(l)
		if !same() {
			t.Errorf("RulesOk wrote into %v", plain)
		}
		for _, place := range []int{0, 5, 6, 29, 30} {
			impl.RuleAt(l, 9, 2, place)
		}
		if impl.RuleAt(l, 77, 2, 1) != -1 || !same() {
			t.Errorf("RuleAt wrote into %v, or read behind it", plain)
		}
		for _, q := range memoryAsks() {
			impl.Parts(l, 9, q)
			if _, fault := impl.Parts(l, 77, q); fault != impl.FaultPath && fault != impl.FaultValue {
				t.Errorf("Parts read behind %v", plain)
			}
		}
		if !same() {
			t.Errorf("Parts wrote into %v", plain)
		}
	}
}

func TestPartsAnswersNewMemory(t *testing.T) {
	for _, plain := range memoryRules() {
		for _, q := range memoryAsks() {
			l, sameRules := withRoom(plain, impl.Rule{Unit: 77})
			arg, sameQuestion := roomyReq(t, q)
			first, _ := impl.Parts(l, 9, arg)
			second, _ := impl.Parts(l, 9, arg)
			third, _ := impl.Parts(l, 9, arg)
			was := cloneParts(second)
			for i, p := range third {
				spoilReq(p.Req)
				if !equalParts(third[i+1:], was[i+1:]) {
					t.Fatalf("two parts of %v share memory", q)
				}
			}
			spoilParts(first)
			sameQuestion("what Parts answered")
			if !sameRules() || !equalParts(second, was) {
				t.Fatalf("what Parts answered of %v shares memory with the rules or with another answer", q)
			}
			spoilReq(arg)
			spoilRules(l)
			if !equalParts(second, was) {
				t.Fatalf("the parts of %v share memory with an argument", q)
			}
		}
	}
}

// roomyParts gives parts with marked room behind all lists, and a check that none of it was written into.
func roomyParts(t *testing.T, list []impl.Part) ([]impl.Part, func(what string)) {
	t.Helper()
	whole := append(slices.Clone(list), impl.Part{Port: 7, Unit: 77})
	var checks []func(what string)
	for i := range list {
		q, same := roomyReq(t, list[i].Req)
		whole[i].Req = q
		checks = append(checks, same)
	}
	return whole[:len(list)], func(what string) {
		t.Helper()
		for _, same := range checks {
			same(what)
		}
		if !equalParts(whole[:len(list)], list) || !equalPart(whole[len(list)], impl.Part{Port: 7, Unit: 77}) {
			t.Errorf("%s: the parts became %v", what, whole)
		}
	}
}

// roomyTold gives answers with marked room behind all lists, and a check that none of it was written into.
func roomyTold(t *testing.T, told []impl.Resp) ([]impl.Resp, func(what string)) {
	t.Helper()
	whole := append(slices.Clone(told), impl.Resp{Kind: 7, At: 77})
	var checks []func(what string)
	for i := range told {
		a, same := roomyResp(t, told[i])
		whole[i] = a
		checks = append(checks, same)
	}
	return whole[:len(told)], func(what string) {
		t.Helper()
		for _, same := range checks {
			same(what)
		}
		if !slices.EqualFunc(whole[:len(told)], told, equalResp) || !equalResp(whole[len(told)], impl.Resp{Kind: 7, At: 77}) {
			t.Errorf("%s: what was told became %v", what, whole)
		}
	}
}

// joinsNewMemory wants that what Joined answers shares memory with nothing, and that it writes into nothing.
func joinsNewMemory(t *testing.T, q impl.Req, list []impl.Part, told []impl.Resp) {
	t.Helper()
	question, sameQuestion := roomyReq(t, q)
	some, sameParts := roomyParts(t, list)
	answers, sameTold := roomyTold(t, told)
	same := func(what string) {
		t.Helper()
		sameQuestion(what)
		sameParts(what)
		sameTold(what)
	}
	first := impl.Joined(question, some, answers)
	second := impl.Joined(question, some, answers)
	same("Joined")
	was := impl.Resp{Kind: second.Kind, Fault: second.Fault, At: second.At, N: second.N, Words: slices.Clone(second.Words), Bits: slices.Clone(second.Bits)}
	spoilResp(first)
	same("what Joined answered")
	if !equalResp(second, was) {
		t.Errorf("two answers to %v share memory", q)
	}
	spoilReq(question)
	for _, a := range answers {
		spoilResp(a)
	}
	spoilParts(some)
	if !equalResp(second, was) {
		t.Errorf("what Joined answered to %v shares memory with an argument", q)
	}
}

func TestJoinedAnswersNewMemory(t *testing.T) {
	questions, all := partedQuestions()
	for i, q := range questions {
		list, told := all[i], toldAll(q, all[i], sampleBits(230, 33), sampleWords(231, 33))
		joinsNewMemory(t, q, list, told)
		joinsNewMemory(t, q, list, told[1:])
		joinsNewMemory(t, q, nil, nil)
		joinsNewMemory(t, impl.Req{Kind: q.Kind, At: -1, Words: q.Words, Bits: q.Bits}, list, told)
		faulty := slices.Clone(told)
		faulty[len(told)-1] = impl.Resp{Kind: q.Kind, Fault: 2}
		joinsNewMemory(t, q, list, faulty)
		// one part alone, of whole bytes, leaves nothing to fill up
		whole := askAt(q.Kind, 0, min(askKinds[i].most, 16))
		joinsNewMemory(t, whole, []impl.Part{{Unit: 1, Req: whole}}, []impl.Resp{fitting(whole)})
	}
}

// What is answered hangs on the arguments alone: asked again in another order, it is the same.
func TestRoutesKeepNothing(t *testing.T) {
	var first []string
	ask := func() (out []string) {
		for _, l := range memoryRules() {
			for _, q := range memoryAsks() {
				list, fault := impl.Parts(l, 9, q)
				out = append(out, fmt.Sprint(impl.RulesOk(l), list, fault, impl.Joined(q, list, []impl.Resp{fitting(q)})))
			}
		}
		return out
	}
	first = ask()
	for range 3 {
		if again := ask(); !slices.Equal(again, first) {
			t.Error("asked again, other things are answered")
		}
	}
}
