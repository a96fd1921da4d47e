package tests

import (
	"bytes"
	"math"
	"slices"
	"testing"

	"loop.example/g00129/impl"
)

// An askKind is what chapter 3 says of a kind: how many places one question may touch, in which space.
type askKind struct {
	kind, most, space int
	writes            bool
}

var askKinds = []askKind{
	{1, 2000, 0, false},
	{2, 2000, 1, false},
	{3, 125, 2, false},
	{4, 125, 3, false},
	{5, 1, 0, true},
	{6, 1, 2, true},
	{15, 1968, 0, true},
	{16, 123, 2, true},
	{22, 1, 2, true},
	{23, 125, 2, true},
}

func isAskKind(kind int) bool {
	return slices.ContainsFunc(askKinds, func(k askKind) bool { return k.kind == kind })
}

// sampleWords gives n words that look mixed and are the same in every run.
func sampleWords(seed uint32, n int) []int {
	b := sampleBytes(seed, 2*n)
	words := make([]int, n)
	for i := range words {
		words[i] = int(b[2*i])*256 + int(b[2*i+1])
	}
	return words
}

// askAt gives a question of this kind that touches n places from at on; a ReadWrite writes one word at 9.
func askAt(kind int, at int, n int) impl.Req {
	q := impl.Req{Kind: kind, At: at}
	switch kind {
	case 1, 2, 3, 4:
		q.N = n
	case 5, 15:
		q.Bits = sampleBits(uint32(at+n), n)
	case 6, 16:
		q.Words = sampleWords(uint32(at+n), n)
	case 22:
		q.Words = sampleWords(uint32(at), 2)
	case 23:
		q.N, q.WAt, q.Words = n, 9, sampleWords(uint32(n), 1)
	}
	return q
}

// bothAt gives a ReadWrite that reads n from at on and writes w words from wat on.
func bothAt(at int, n int, wat int, w int) impl.Req {
	return impl.Req{Kind: 23, At: at, N: n, WAt: wat, Words: sampleWords(uint32(w), w)}
}

// twoBytes is the list with each number as two bytes behind it.
func twoBytes(b []byte, numbers ...int) []byte {
	for _, n := range numbers {
		b = append(b, byte(n/256), byte(n%256))
	}
	return b
}

// slowPut is the bytes of a right question, laid out kind by kind as chapter 3 words it.
func slowPut(q impl.Req) []byte {
	b := twoBytes([]byte{byte(q.Kind)}, q.At)
	switch q.Kind {
	case 1, 2, 3, 4:
		return twoBytes(b, q.N)
	case 5:
		if q.Bits[0] {
			return append(b, 255, 0)
		}
		return append(b, 0, 0)
	case 6, 22:
		return twoBytes(b, q.Words...)
	case 15:
		packed := slowPack(q.Bits)
		return append(append(twoBytes(b, len(q.Bits)), byte(len(packed))), packed...)
	case 16:
		return twoBytes(append(twoBytes(b, len(q.Words)), byte(2*len(q.Words))), q.Words...)
	}
	b = twoBytes(b, q.N, q.WAt, len(q.Words))
	return twoBytes(append(b, byte(2*len(q.Words))), q.Words...)
}

func equalReq(a impl.Req, b impl.Req) bool {
	return a.Kind == b.Kind && a.At == b.At && a.N == b.N && a.WAt == b.WAt && slices.Equal(a.Words, b.Words) && slices.Equal(a.Bits, b.Bits)
}

// rightQuestions gives questions of every kind, from the fewest to the most, at the first and at the last places.
func rightQuestions() []impl.Req {
	var list []impl.Req
	for _, k := range askKinds {
		for _, n := range []int{1, 2, 7, 8, 9, 15, 16, 17, 100, 120, k.most - 1, k.most} {
			if n < 1 || n > k.most {
				continue
			}
			for _, at := range []int{0, 1, 255, 256, 257, 4660, 65535 - n, 65536 - n} {
				list = append(list, askAt(k.kind, at, n))
			}
		}
	}
	for _, n := range []int{1, 2, 125} {
		for _, w := range []int{1, 2, 3, 120, 121} {
			for _, wat := range []int{0, 1, 258, 65535 - w, 65536 - w} {
				list = append(list, bothAt(0, n, wat, w), bothAt(65536-n, n, wat, w))
			}
		}
	}
	for _, n := range []int{1, 8, 9, 1968} {
		list = append(list, impl.Req{Kind: 15, At: 3, Bits: allBits(n)}, impl.Req{Kind: 15, At: 3, Bits: make([]bool, n)})
	}
	for _, n := range []int{0, 1, 255, 256, 65280, 65534, 65535} {
		list = append(list, impl.Req{Kind: 6, Words: []int{n}}, impl.Req{Kind: 22, Words: []int{n, 7}}, impl.Req{Kind: 22, Words: []int{7, n}},
			impl.Req{Kind: 16, Words: []int{n, 0, n}}, impl.Req{Kind: 23, N: 1, Words: []int{0, n}})
	}
	for _, at := range []int{0, 1, 65535} {
		list = append(list, impl.Req{Kind: 5, At: at, Bits: []bool{true}}, impl.Req{Kind: 5, At: at, Bits: []bool{false}})
	}
	return list
}

func TestAskNames(t *testing.T) {
	got := []int{impl.ReadCoils, impl.ReadInputs, impl.ReadHolding, impl.ReadWords, impl.WriteCoil, impl.WriteWord, impl.WriteCoils, impl.WriteWords, impl.MaskWord, impl.ReadWrite, impl.PduGood, impl.PduKind, impl.PduForm}
	if want := []int{1, 2, 3, 4, 5, 6, 15, 16, 22, 23, 0, 1, 3}; !slices.Equal(got, want) {
		t.Errorf("the constants are %v, not %v", got, want)
	}
}

func TestPutReqKnown(t *testing.T) {
	known := []struct {
		q    impl.Req
		want string
	}{
		{impl.Req{Kind: impl.ReadCoils, N: 1}, "0100000001"},
		{impl.Req{Kind: impl.ReadInputs, At: 196, N: 22}, "0200C40016"},
		{impl.Req{Kind: impl.ReadHolding, At: 107, N: 3}, "03006B0003"},
		{impl.Req{Kind: impl.ReadWords, At: 65535, N: 1}, "04FFFF0001"},
		{impl.Req{Kind: impl.ReadCoils, At: 63536, N: 2000}, "01F83007D0"},
		{impl.Req{Kind: impl.WriteCoil, At: 172, Bits: []bool{true}}, "0500ACFF00"},
		{impl.Req{Kind: impl.WriteCoil, At: 65535, Bits: []bool{false}}, "05FFFF0000"},
		{impl.Req{Kind: impl.WriteWord, At: 1, Words: []int{65535}}, "060001FFFF"},
		{impl.Req{Kind: impl.WriteCoils, At: 7, Bits: []bool{true}}, "0F000700010101"},
		{impl.Req{Kind: impl.WriteCoils, At: 7, Bits: allBits(9)}, "0F0007000902FF01"},
		{impl.Req{Kind: impl.WriteWords, At: 258, Words: []int{772}}, "1001020001020304"},
		{impl.Req{Kind: impl.MaskWord, At: 4, Words: []int{242, 37}}, "16000400F20025"},
		{impl.Req{Kind: impl.ReadWrite, At: 258, N: 3, WAt: 1029, Words: []int{1543}}, "17010200030405000102" + "0607"},
	}
	for _, k := range known {
		if got := impl.Hex(impl.PutReq(k.q)); got != k.want {
			t.Errorf("PutReq(%v) is %s, not %s", k.q, got, k.want)
		}
	}
}

func TestQuestionsComeBack(t *testing.T) {
	for _, q := range rightQuestions() {
		if !impl.ReqOk(q) {
			t.Fatalf("%v is not ReqOk", q)
		}
		b := impl.PutReq(q)
		if want := slowPut(q); !bytes.Equal(b, want) {
			t.Fatalf("PutReq(%v) is %v, not %v", q, b, want)
		}
		if back, code := impl.GetReq(b); code != impl.PduGood || !equalReq(back, q) {
			t.Fatalf("GetReq(%v) is %v, %d, not %v", b, back, code, q)
		}
	}
}

// refusesAsk wants what the chapter says of a question that is not right.
func refusesAsk(t *testing.T, q impl.Req) {
	t.Helper()
	if impl.ReqOk(q) {
		t.Errorf("%v is ReqOk", q)
	}
	if b := impl.PutReq(q); len(b) != 0 {
		t.Errorf("PutReq(%v) is %v", q, b)
	}
	if space, at, n := impl.Spaces(q); space != -1 || at != 0 || n != 0 {
		t.Errorf("Spaces(%v) is %d, %d, %d", q, space, at, n)
	}
}

func TestTooFewOrTooMany(t *testing.T) {
	for _, k := range askKinds {
		if k.kind != 22 {
			refusesAsk(t, askAt(k.kind, 0, 0))
			refusesAsk(t, askAt(k.kind, 0, k.most+1))
			refusesAsk(t, askAt(k.kind, 0, k.most+2))
		}
	}
	for _, n := range []int{0, 1, 3, 4} {
		refusesAsk(t, impl.Req{Kind: 22, Words: make([]int, n)})
	}
	for _, w := range []int{0, 122, 123, 125} {
		refusesAsk(t, bothAt(0, 1, 0, w))
	}
	refusesAsk(t, impl.Req{Kind: 15, Bits: make([]bool, 2000)})
	refusesAsk(t, impl.Req{Kind: 16, Words: make([]int, 65537)})
	refusesAsk(t, impl.Req{Kind: 15, Bits: make([]bool, 65537)})
}

func TestNumbersThatAreNone(t *testing.T) {
	wrong := []int{-1, -2, -255, -65536, 65536, 65537, 1 << 20, 1 << 32, math.MaxInt, math.MaxInt - 1, math.MinInt, math.MinInt + 1}
	for _, k := range askKinds {
		q := askAt(k.kind, 0, 1)
		for _, n := range wrong {
			at := q
			at.At = n
			refusesAsk(t, at)
			count := q
			count.N = n
			refusesAsk(t, count)
			wat := q
			wat.WAt = n
			refusesAsk(t, wat)
			for i := range q.Words {
				word := q
				word.Words = slices.Clone(q.Words)
				word.Words[i] = n
				refusesAsk(t, word)
			}
		}
	}
	for _, n := range wrong {
		for i := range 3 {
			words := []int{1, 2, 3}
			words[i] = n
			refusesAsk(t, impl.Req{Kind: 16, Words: words})
			refusesAsk(t, impl.Req{Kind: 23, N: 1, Words: words})
		}
	}
}

func TestEndOfPlaces(t *testing.T) {
	for _, k := range askKinds {
		for _, n := range []int{1, 2, 3, k.most} {
			if n > k.most {
				continue
			}
			if q := askAt(k.kind, 65536-n, n); !impl.ReqOk(q) {
				t.Errorf("%v ends at 65536 and is not ReqOk", q)
			}
			refusesAsk(t, askAt(k.kind, 65537-n, n))
			refusesAsk(t, askAt(k.kind, 65538-n, n))
		}
	}
	for _, w := range []int{1, 2, 121} {
		if q := bothAt(65535, 1, 65536-w, w); !impl.ReqOk(q) {
			t.Errorf("%v ends at 65536 and is not ReqOk", q)
		}
		refusesAsk(t, bothAt(0, 1, 65537-w, w))
	}
	// The sums of these pass the end of int, and would be small again.
	for _, kind := range []int{1, 2, 3, 4, 23} {
		for _, n := range []int{1, 2, 125, math.MaxInt, math.MaxInt - 1} {
			for _, at := range []int{math.MaxInt, math.MaxInt - 1, math.MaxInt - 124, math.MinInt} {
				q := askAt(kind, 0, 1)
				q.At, q.N = at, n
				refusesAsk(t, q)
				q.At, q.N = n, at
				refusesAsk(t, q)
			}
		}
		q := askAt(kind, 0, 1)
		q.At, q.N = math.MinInt, math.MinInt
		refusesAsk(t, q)
	}
	for _, at := range []int{math.MaxInt, math.MaxInt - 1, math.MinInt} {
		refusesAsk(t, impl.Req{Kind: 15, At: at, Bits: allBits(2)})
		refusesAsk(t, impl.Req{Kind: 16, At: at, Words: []int{1, 2}})
		refusesAsk(t, impl.Req{Kind: 23, N: 1, WAt: at, Words: []int{1, 2}})
	}
}

func TestFieldsThatTheKindDoesNotName(t *testing.T) {
	for _, k := range askKinds {
		right := askAt(k.kind, 3, 1)
		if !impl.ReqOk(right) {
			t.Errorf("%v is not ReqOk", right)
		}
		for _, n := range []int{1, 2, 65535} {
			q := right
			if q.N = n; k.kind > 4 && k.kind != 23 {
				refusesAsk(t, q)
			}
			q = right
			if q.WAt = n; k.kind != 23 {
				refusesAsk(t, q)
			}
		}
		q := right
		q.Words = []int{0}
		if len(right.Words) == 0 {
			refusesAsk(t, q)
		}
		q = right
		q.Bits = []bool{false}
		if len(right.Bits) == 0 {
			refusesAsk(t, q)
		}
	}
	refusesAsk(t, impl.Req{Kind: 15, N: 2, Bits: allBits(2)})
	refusesAsk(t, impl.Req{Kind: 16, N: 2, Words: []int{1, 2}})
	refusesAsk(t, impl.Req{Kind: 22, N: 1, Words: []int{1, 2}})
}

func TestEmptyListsAreNone(t *testing.T) {
	for _, k := range askKinds {
		q := askAt(k.kind, 3, 1)
		if q.Words == nil {
			q.Words = make([]int, 0, 5)
		}
		if q.Bits == nil {
			q.Bits = make([]bool, 0, 5)
		}
		if b := impl.PutReq(q); !impl.ReqOk(q) || !bytes.Equal(b, slowPut(q)) {
			t.Errorf("%v, with empty lists, is %v", q, b)
		}
	}
}

func TestKindsThatAreNone(t *testing.T) {
	kinds := []int{math.MinInt, math.MinInt + 3, -1, -3, -128, 129, 131, 257, 259, 256 + 23, 1<<32 + 3, math.MaxInt}
	for n := range 256 {
		kinds = append(kinds, n)
	}
	for _, kind := range kinds {
		if isAskKind(kind) {
			continue
		}
		for _, k := range askKinds {
			q := askAt(k.kind, 3, 1)
			q.Kind = kind
			refusesAsk(t, q)
			if impl.Writes(q) {
				t.Errorf("Writes(%v) is true", q)
			}
			if b := slowPut(askAt(k.kind, 3, 1)); !isAskKind(int(byte(kind))) {
				b[0] = byte(kind)
				refusesBytes(t, b, impl.PduKind)
			}
		}
	}
	refusesAsk(t, impl.Req{})
}

// refusesBytes wants the zero question and this code.
func refusesBytes(t *testing.T, b []byte, code int) {
	t.Helper()
	if q, got := impl.GetReq(b); got != code || !equalReq(q, impl.Req{}) {
		t.Errorf("GetReq(%v) is %v, %d, not %d", b, q, got, code)
	}
}

func TestGetReqNoKind(t *testing.T) {
	refusesBytes(t, nil, impl.PduKind)
	refusesBytes(t, []byte{}, impl.PduKind)
	for first := range 256 {
		code := impl.PduKind
		if isAskKind(first) {
			code = impl.PduForm
		}
		refusesBytes(t, []byte{byte(first)}, code)
		refusesBytes(t, append([]byte{byte(first)}, make([]byte, 300)...), code)
	}
}

func TestGetReqCutOrLonger(t *testing.T) {
	for _, q := range rightQuestions() {
		b := slowPut(q)
		for n := 1; n < len(b); n++ {
			refusesBytes(t, b[:n:n], impl.PduForm)
			refusesBytes(t, b[:n], impl.PduForm) // what lies behind the length is not read
		}
		for _, more := range [][]byte{{0}, {1}, {255}, {0, 0}, {255, 0}, make([]byte, 300)} {
			refusesBytes(t, append(bytes.Clone(b), more...), impl.PduForm)
		}
		refusesBytes(t, b[:0], impl.PduKind)
	}
}

// slowGet is the question of bytes that are one, each field and the length asked for as chapter 3 words it.
func slowGet(b []byte) (impl.Req, bool) {
	if len(b) < 5 {
		return impl.Req{}, false
	}
	word := func(at int) int { return int(b[at])*256 + int(b[at+1]) }
	q := impl.Req{Kind: int(b[0]), At: word(1)}
	run := func(at int, n int, most int) bool { return n >= 1 && n <= most && at+n <= 65536 }
	switch q.Kind {
	case 1, 2:
		q.N = word(3)
		return q, len(b) == 5 && run(q.At, q.N, 2000)
	case 3, 4:
		q.N = word(3)
		return q, len(b) == 5 && run(q.At, q.N, 125)
	case 5:
		q.Bits = []bool{b[3] == 255}
		return q, len(b) == 5 && (b[3] == 255 || b[3] == 0) && b[4] == 0
	case 6:
		q.Words = []int{word(3)}
		return q, len(b) == 5
	case 22:
		if len(b) != 7 {
			return q, false
		}
		q.Words = []int{word(3), word(5)}
		return q, true
	case 15:
		n := word(3)
		if !run(q.At, n, 1968) || len(b) < 6 || int(b[5]) != (n+7)/8 || len(b) != 6+(n+7)/8 {
			return q, false
		}
		for i := range 8 * int(b[5]) {
			bit := int(b[6+i/8])/[]int{1, 2, 4, 8, 16, 32, 64, 128}[i%8]%2 == 1
			if i >= n && bit {
				return q, false
			}
			if i < n {
				q.Bits = append(q.Bits, bit)
			}
		}
		return q, true
	}
	return slowGetWords(q, b, word, run)
}

func slowGetWords(q impl.Req, b []byte, word func(int) int, run func(int, int, int) bool) (impl.Req, bool) {
	first, at, most := 6, q.At, 123
	if q.Kind == 23 {
		if len(b) < 10 {
			return q, false
		}
		q.N, q.WAt = word(3), word(5)
		if !run(q.At, q.N, 125) {
			return q, false
		}
		first, at, most = 10, q.WAt, 121
	} else if q.Kind != 16 {
		return q, false
	}
	n := word(first - 3)
	if !run(at, n, most) || len(b) != first+2*n || int(b[first-1]) != 2*n {
		return q, false
	}
	for i := range n {
		q.Words = append(q.Words, word(first+2*i))
	}
	return q, true
}

// getsAsTold holds GetReq of b, whose first byte is a Kind, against the slow one.
func getsAsTold(t *testing.T, b []byte) {
	t.Helper()
	q, code := impl.GetReq(b)
	want, ok := slowGet(b)
	if !ok {
		want = impl.Req{}
	}
	if (code == impl.PduGood) != ok || !ok && code != impl.PduForm || !equalReq(q, want) {
		t.Fatalf("GetReq(%v) is %v, %d, not %v, %v", b, q, code, want, ok)
	}
	if ok && (!impl.ReqOk(q) || !bytes.Equal(impl.PutReq(q), b)) {
		t.Fatalf("%v does not come back of %v", b, q)
	}
}

func TestGetReqOfEveryOtherByte(t *testing.T) {
	var list []impl.Req
	for _, k := range askKinds {
		list = append(list, askAt(k.kind, 65536-min(k.most, 12), min(k.most, 12)), askAt(k.kind, 255, 1), askAt(k.kind, 65536-k.most, k.most))
	}
	list = append(list, bothAt(65530, 6, 65533, 3), impl.Req{Kind: 5, Bits: []bool{true}}, impl.Req{Kind: 15, Bits: allBits(8)})
	for _, q := range list {
		b := slowPut(q)
		for i := 1; i < min(len(b), 40); i++ {
			for x := range 256 {
				other := bytes.Clone(b)
				other[i] = byte(x)
				getsAsTold(t, other)
			}
		}
		for _, k := range askKinds {
			other := bytes.Clone(b)
			other[0] = byte(k.kind)
			getsAsTold(t, other)
		}
	}
}

func TestGetReqOfTwoCoilBytes(t *testing.T) {
	for upper := range 256 {
		for lower := range 256 {
			b := []byte{5, 0, 172, byte(upper), byte(lower)}
			switch {
			case lower == 0 && (upper == 0 || upper == 255):
				q, code := impl.GetReq(b)
				if want := (impl.Req{Kind: 5, At: 172, Bits: []bool{upper == 255}}); code != impl.PduGood || !equalReq(q, want) {
					t.Errorf("GetReq(%v) is %v, %d", b, q, code)
				}
			default:
				refusesBytes(t, b, impl.PduForm)
			}
		}
	}
}

func TestGetReqWrongCounts(t *testing.T) {
	for _, k := range []struct {
		kind byte
		most int
	}{{1, 2000}, {2, 2000}, {3, 125}, {4, 125}} {
		for _, n := range []int{0, k.most + 1, k.most + 2, 32768, 65535} {
			refusesBytes(t, twoBytes([]byte{k.kind}, 0, n), impl.PduForm)
		}
		refusesBytes(t, twoBytes([]byte{k.kind}, 65535, 2), impl.PduForm)
		refusesBytes(t, twoBytes([]byte{k.kind}, 65537-k.most, k.most), impl.PduForm)
	}
	// None, and one too many, with all the rest as it would be.
	refusesBytes(t, append(twoBytes([]byte{15}, 0, 0), 0), impl.PduForm)
	refusesBytes(t, append(append(twoBytes([]byte{15}, 0, 1969), 247), make([]byte, 247)...), impl.PduForm)
	refusesBytes(t, append(twoBytes([]byte{16}, 0, 0), 0), impl.PduForm)
	refusesBytes(t, append(append(twoBytes([]byte{16}, 0, 124), 248), make([]byte, 248)...), impl.PduForm)
	refusesBytes(t, append(twoBytes([]byte{23}, 0, 1, 0, 0), 0), impl.PduForm)
	refusesBytes(t, append(append(twoBytes([]byte{23}, 0, 1, 0, 122), 244), make([]byte, 244)...), impl.PduForm)
	// So many that the byte of how many bytes has gone round.
	refusesBytes(t, append(append(twoBytes([]byte{15}, 0, 2056), 1), make([]byte, 257)...), impl.PduForm)
	refusesBytes(t, append(append(twoBytes([]byte{16}, 0, 129), 2), make([]byte, 258)...), impl.PduForm)
	refusesBytes(t, append(append(twoBytes([]byte{23}, 0, 1, 0, 129), 2), make([]byte, 258)...), impl.PduForm)
	for _, n := range []int{0, 126, 127, 65535} {
		refusesBytes(t, twoBytes(append(twoBytes([]byte{23}, 0, n, 0, 1), 2), 7), impl.PduForm)
	}
	refusesBytes(t, twoBytes(append(twoBytes([]byte{23}, 65535, 2, 0, 1), 2), 7), impl.PduForm)
	refusesBytes(t, twoBytes(append(twoBytes([]byte{23}, 0, 1, 65535, 2), 4), 7, 8), impl.PduForm)
	refusesBytes(t, twoBytes(append(twoBytes([]byte{16}, 65535, 2), 4), 7, 8), impl.PduForm)
	refusesBytes(t, append(twoBytes([]byte{15}, 65535, 2), 1, 3), impl.PduForm)
}

func TestGetReqCountOfBytes(t *testing.T) {
	for _, q := range []impl.Req{askAt(15, 0, 1), askAt(15, 0, 8), askAt(15, 0, 9), askAt(15, 0, 1968), askAt(16, 0, 1), askAt(16, 0, 123), bothAt(0, 1, 0, 1), bothAt(0, 1, 0, 121)} {
		b := slowPut(q)
		at := 5
		if q.Kind == 23 {
			at = 9
		}
		right := int(b[at])
		for n := range 256 {
			if n == right {
				continue
			}
			b[at] = byte(n)
			refusesBytes(t, b, impl.PduForm)
			// Also with as many bytes as it says.
			refusesBytes(t, append(bytes.Clone(b[:at+1]), make([]byte, n)...), impl.PduForm)
		}
	}
}

func TestGetReqBitsLeftOver(t *testing.T) {
	for n := 1; n <= 33; n++ {
		b := slowPut(askAt(15, 0, n))
		for over := n; over < 8*(len(b)-6); over++ {
			wrong := bytes.Clone(b)
			wrong[6+over/8] |= 1 << (over % 8)
			refusesBytes(t, wrong, impl.PduForm)
		}
	}
}

func TestWrites(t *testing.T) {
	for _, k := range askKinds {
		if got := impl.Writes(askAt(k.kind, 1, 1)); got != k.writes {
			t.Errorf("Writes of the kind %d is %v", k.kind, got)
		}
		// The Kind alone tells, where the rest is not right.
		for _, q := range []impl.Req{{Kind: k.kind}, {Kind: k.kind, At: -1, N: 70000, WAt: 9}} {
			if got := impl.Writes(q); got != k.writes {
				t.Errorf("Writes(%v) is %v", q, got)
			}
		}
	}
	for _, kind := range []int{-5, -1, 0, 7, 8, 14, 17, 21, 24, 5 + 256, 128 + 5, math.MinInt, math.MaxInt} {
		if impl.Writes(impl.Req{Kind: kind, Bits: []bool{true}}) {
			t.Errorf("Writes of the kind %d is true", kind)
		}
	}
}

func TestSpaces(t *testing.T) {
	for _, k := range askKinds {
		for _, n := range []int{1, 2, k.most} {
			if n > k.most {
				continue
			}
			for _, at := range []int{0, 1, 300, 65536 - n} {
				q := askAt(k.kind, at, n)
				if space, from, count := impl.Spaces(q); space != k.space || from != at || count != n {
					t.Errorf("Spaces(%v) is %d, %d, %d", q, space, from, count)
				}
			}
		}
	}
	if space, at, n := impl.Spaces(bothAt(5, 6, 70, 8)); space != 2 || at != 5 || n != 6 {
		t.Error("of ReadWrite those read:", space, at, n)
	}
}

// roomyReq gives q with marked room behind its lists, and a check that none of it was written into.
func roomyReq(t *testing.T, q impl.Req) (impl.Req, func(what string)) {
	t.Helper()
	words := append(slices.Clone(q.Words), 111, 222, 333)
	bits := append(slices.Clone(q.Bits), true, false, true)
	wordsBefore, bitsBefore := slices.Clone(words), slices.Clone(bits)
	roomyOne := q
	roomyOne.Words, roomyOne.Bits = words[:len(q.Words)], bits[:len(q.Bits)]
	return roomyOne, func(what string) {
		t.Helper()
		if !slices.Equal(words, wordsBefore) || !slices.Equal(bits, bitsBefore) {
			t.Errorf("%s of %v: the argument became %v, %v", what, q, words, bits)
		}
	}
}

func TestAskLeavesItsArguments(t *testing.T) {
	list := []impl.Req{{}, {Kind: 5}, {Kind: 16, At: -1, Words: []int{1}}, {Kind: 15, N: 1, Bits: allBits(3)}}
	for _, k := range askKinds {
		list = append(list, askAt(k.kind, 3, 1), askAt(k.kind, 3, k.most), askAt(k.kind, 3, k.most+1))
	}
	for _, q := range list {
		arg, unchanged := roomyReq(t, q)
		impl.ReqOk(arg)
		unchanged("ReqOk")
		b := impl.PutReq(arg)
		unchanged("PutReq")
		impl.Writes(arg)
		unchanged("Writes")
		impl.Spaces(arg)
		unchanged("Spaces")
		spoil(b)
		unchanged("what PutReq answered")
		if again := impl.PutReq(arg); impl.ReqOk(q) && !bytes.Equal(again, slowPut(q)) {
			t.Errorf("PutReq(%v) is %v the second time", q, again)
		}
	}
}

// spoilReq writes over all of q's lists and the room behind them.
func spoilReq(q impl.Req) {
	for i := range q.Words[:cap(q.Words)] {
		q.Words[:cap(q.Words)][i] ^= 65535
	}
	for i, bit := range q.Bits[:cap(q.Bits)] {
		q.Bits[:cap(q.Bits)][i] = !bit
	}
}

func TestGetReqAnswersNewMemory(t *testing.T) {
	for _, k := range askKinds {
		for _, n := range []int{1, k.most} {
			q := askAt(k.kind, 3, n)
			b, unchanged := roomy(t, slowPut(q))
			first, _ := impl.GetReq(b)
			second, _ := impl.GetReq(b)
			unchanged("GetReq")
			spoilReq(first)
			unchanged("what GetReq answered")
			if !equalReq(second, q) {
				t.Errorf("two answers of %v share memory", b)
			}
			third, _ := impl.GetReq(b)
			spoil(b)
			if !equalReq(third, q) {
				t.Errorf("the answer of GetReq shares memory with its bytes: %v", third)
			}
		}
	}
	for _, wrong := range [][]byte{{}, {7}, {1, 2, 3}, {15, 0, 0, 0, 9, 2, 255, 3}} {
		b, unchanged := roomy(t, wrong)
		impl.GetReq(b)
		unchanged("GetReq, refused")
	}
}
