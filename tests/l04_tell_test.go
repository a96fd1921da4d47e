package tests

import (
	"bytes"
	"math"
	"slices"
	"testing"

	"loop.example/g00129/impl"
)

// A tellKind is what chapter 4 says of a kind: which fields it names, and how few and how many of them there may be.
type tellKind struct {
	kind               int
	at, n, words, bits bool
	least, most, step  int // of the Bits, the Words, or of N
}

var tellKinds = []tellKind{
	{kind: 1, bits: true, least: 8, most: 2000, step: 8},
	{kind: 2, bits: true, least: 8, most: 2000, step: 8},
	{kind: 3, words: true, least: 1, most: 125, step: 1},
	{kind: 4, words: true, least: 1, most: 125, step: 1},
	{kind: 5, at: true, bits: true, least: 1, most: 1, step: 1},
	{kind: 6, at: true, words: true, least: 1, most: 1, step: 1},
	{kind: 15, at: true, n: true, least: 1, most: 1968, step: 1},
	{kind: 16, at: true, n: true, least: 1, most: 123, step: 1},
	{kind: 22, at: true, words: true, least: 2, most: 2, step: 1},
	{kind: 23, words: true, least: 1, most: 125, step: 1},
}

// Numbers that are no words, close to them and at the ends of int.
var noWords = []int{-1, -2, -255, -65535, -65536, 65536, 65537, 1 << 20, 1 << 32, 1<<32 + 1, math.MaxInt, math.MaxInt - 1, math.MinInt, math.MinInt + 1}

// Numbers that are no Fault, 0 aside: that is none.
var noFaults = []int{-1, -2, -128, -255, -256, 256, 257, 511, 65536, 1<<32 + 1, math.MaxInt, math.MaxInt - 1, math.MinInt, math.MinInt + 1}

// tellOf gives an answer of this kind with n Bits or Words, or with this N, at this At where the kind names it.
func tellOf(k tellKind, at int, n int) impl.Resp {
	a := impl.Resp{Kind: k.kind}
	if k.at {
		a.At = at
	}
	if k.n {
		a.N = n
	}
	if k.words {
		a.Words = sampleWords(uint32(at+n), n)
	}
	if k.bits {
		a.Bits = sampleBits(uint32(at+n), n)
	}
	return a
}

func equalResp(a impl.Resp, b impl.Resp) bool {
	return a.Kind == b.Kind && a.Fault == b.Fault && a.At == b.At && a.N == b.N && slices.Equal(a.Words, b.Words) && slices.Equal(a.Bits, b.Bits)
}

// slowTell is the bytes of a right answer, laid out kind by kind as chapter 4 words it.
func slowTell(a impl.Resp) []byte {
	if a.Fault != 0 {
		return []byte{byte(a.Kind + 128), byte(a.Fault)}
	}
	b := []byte{byte(a.Kind)}
	switch a.Kind {
	case 1, 2:
		return append(append(b, byte(len(a.Bits)/8)), slowPack(a.Bits)...)
	case 3, 4, 23:
		return twoBytes(append(b, byte(2*len(a.Words))), a.Words...)
	case 5:
		if a.Bits[0] {
			return append(twoBytes(b, a.At), 255, 0)
		}
		return append(twoBytes(b, a.At), 0, 0)
	case 6, 22:
		return twoBytes(twoBytes(b, a.At), a.Words...)
	}
	return twoBytes(b, a.At, a.N)
}

// rightTold gives answers without a Fault of every kind, from the fewest to the most, at the first and at the last place.
func rightTold() []impl.Resp {
	var list []impl.Resp
	for _, k := range tellKinds {
		for _, n := range []int{1, 2, 3, 8, 9, 16, 64, 100, 120, 122, 123, 1000, 1960, k.most - k.step, k.most} {
			if n < k.least || n > k.most || n%k.step != 0 {
				continue
			}
			for _, at := range []int{0, 1, 255, 256, 4660, 65534, 65535} {
				list = append(list, tellOf(k, at, n))
			}
		}
	}
	for _, n := range []int{8, 16, 2000} {
		for _, kind := range []int{1, 2} {
			list = append(list, impl.Resp{Kind: kind, Bits: allBits(n)}, impl.Resp{Kind: kind, Bits: make([]bool, n)})
		}
	}
	for _, n := range []int{0, 1, 255, 256, 65280, 65534, 65535} {
		list = append(list, impl.Resp{Kind: 6, Words: []int{n}}, impl.Resp{Kind: 22, Words: []int{n, 7}}, impl.Resp{Kind: 22, Words: []int{7, n}},
			impl.Resp{Kind: 3, Words: []int{n}}, impl.Resp{Kind: 4, Words: []int{0, n}}, impl.Resp{Kind: 23, Words: []int{n, 0, n}})
	}
	for _, at := range []int{0, 1, 65535} {
		list = append(list, impl.Resp{Kind: 5, At: at, Bits: []bool{true}}, impl.Resp{Kind: 5, At: at, Bits: []bool{false}})
	}
	return list
}

func rightFaults() []impl.Resp {
	var list []impl.Resp
	for _, k := range tellKinds {
		for fault := 1; fault <= 255; fault++ {
			list = append(list, impl.Resp{Kind: k.kind, Fault: fault})
		}
	}
	return list
}

func TestPutRespKnown(t *testing.T) {
	known := []struct {
		a    impl.Resp
		want string
	}{
		{impl.Resp{Kind: impl.ReadCoils, Bits: []bool{true, false, true, true, false, false, true, true}}, "0101CD"},
		{impl.Resp{Kind: impl.ReadInputs, Bits: append(allBits(8), true, false, false, false, false, false, false, false)}, "0202FF01"},
		{impl.Resp{Kind: impl.ReadHolding, Words: []int{555, 0, 100}}, "0306022B00000064"},
		{impl.Resp{Kind: impl.ReadWords, Words: []int{65535}}, "0402FFFF"},
		{impl.Resp{Kind: impl.WriteCoil, At: 172, Bits: []bool{true}}, "0500ACFF00"},
		{impl.Resp{Kind: impl.WriteCoil, At: 65535, Bits: []bool{false}}, "05FFFF0000"},
		{impl.Resp{Kind: impl.WriteWord, At: 1, Words: []int{3}}, "0600010003"},
		{impl.Resp{Kind: impl.WriteCoils, At: 19, N: 1968}, "0F001307B0"},
		{impl.Resp{Kind: impl.WriteWords, At: 258, N: 123}, "100102007B"},
		{impl.Resp{Kind: impl.MaskWord, At: 4, Words: []int{242, 37}}, "16000400F20025"},
		{impl.Resp{Kind: impl.ReadWrite, Words: []int{254, 2765}}, "170400FE0ACD"},
		{impl.Resp{Kind: impl.ReadCoils, Fault: 1}, "8101"},
		{impl.Resp{Kind: impl.WriteCoils, Fault: 11}, "8F0B"},
		{impl.Resp{Kind: impl.ReadWrite, Fault: 255}, "97FF"},
	}
	for _, k := range known {
		if got := impl.Hex(impl.PutResp(k.a)); got != k.want {
			t.Errorf("PutResp(%v) is %s, not %s", k.a, got, k.want)
		}
	}
}

func TestAnswersComeBack(t *testing.T) {
	for _, a := range append(rightTold(), rightFaults()...) {
		if !impl.RespOk(a) {
			t.Fatalf("%v is not RespOk", a)
		}
		b := impl.PutResp(a)
		if want := slowTell(a); !bytes.Equal(b, want) {
			t.Fatalf("PutResp(%v) is %v, not %v", a, b, want)
		}
		if back, code := impl.GetResp(b); code != impl.PduGood || !equalResp(back, a) {
			t.Fatalf("GetResp(%v) is %v, %d, not %v", b, back, code, a)
		}
	}
}

// refusesTell wants what the chapter says of an answer that is not right.
func refusesTell(t *testing.T, a impl.Resp) {
	t.Helper()
	if impl.RespOk(a) {
		t.Errorf("%v is RespOk", a)
	}
	if b := impl.PutResp(a); len(b) != 0 {
		t.Errorf("PutResp(%v) is %v", a, b)
	}
	for _, k := range askKinds {
		if q := askAt(k.kind, 3, 1); impl.Suits(q, a) {
			t.Errorf("%v suits %v", a, q)
		}
	}
}

func TestToldTooFewOrTooMany(t *testing.T) {
	for _, k := range tellKinds {
		for _, n := range []int{0, k.least - k.step, k.most + 1, k.most + 2, k.most + k.step, k.most + 256, 65536 + k.least} {
			refusesTell(t, tellOf(k, 0, n))
			refusesTell(t, tellOf(k, 3, n))
		}
	}
	for _, kind := range []int{1, 2} {
		for n := 1; n <= 2000; n++ {
			if n%8 != 0 {
				refusesTell(t, impl.Resp{Kind: kind, Bits: make([]bool, n)})
			}
		}
	}
	refusesTell(t, impl.Resp{Kind: 5, Bits: make([]bool, 8)})
	refusesTell(t, impl.Resp{Kind: 22, Words: []int{1}})
	refusesTell(t, impl.Resp{Kind: 22, Words: []int{1, 2, 3}})
	for _, n := range []int{124, 1968} {
		refusesTell(t, impl.Resp{Kind: 16, N: n})
	}
}

func TestFaultsThatAreNone(t *testing.T) {
	for _, k := range tellKinds {
		refusesTell(t, impl.Resp{Kind: k.kind})
		for _, fault := range noFaults {
			refusesTell(t, impl.Resp{Kind: k.kind, Fault: fault})
			a := tellOf(k, 3, k.least)
			a.Fault = fault
			refusesTell(t, a)
		}
	}
}

func TestFaultsWithSomethingBeside(t *testing.T) {
	for _, k := range tellKinds {
		for _, fault := range []int{1, 2, 255} {
			for _, a := range []impl.Resp{{At: 1}, {At: 65535}, {N: 1}, {Words: []int{0}}, {Bits: []bool{false}}, {At: -1}, {N: -1}, {N: math.MaxInt}, {At: math.MinInt},
				{Words: []int{0, 0}}, {Bits: make([]bool, 8)}, tellOf(k, 0, k.least), tellOf(k, 9, k.most)} {
				a.Kind, a.Fault = k.kind, fault
				refusesTell(t, a)
			}
		}
	}
}

func TestToldFieldsThatTheKindDoesNotName(t *testing.T) {
	for _, k := range tellKinds {
		right := tellOf(k, 0, k.least)
		if !impl.RespOk(right) {
			t.Errorf("%v is not RespOk", right)
		}
		for _, n := range append([]int{1, 2, 8, 65535}, noWords...) {
			a := right
			if a.At = n; !k.at {
				refusesTell(t, a)
			}
			a = right
			if a.N = n; !k.n {
				refusesTell(t, a)
			}
		}
		for _, n := range []int{1, 2, 8} {
			a := right
			if a.Words = make([]int, n); !k.words {
				refusesTell(t, a)
			}
			a = right
			if a.Bits = make([]bool, n); !k.bits {
				refusesTell(t, a)
			}
		}
	}
	refusesTell(t, impl.Resp{Kind: 1, N: 8, Bits: allBits(8)})
	refusesTell(t, impl.Resp{Kind: 3, N: 2, Words: []int{1, 2}})
	refusesTell(t, impl.Resp{Kind: 15, N: 8, Bits: allBits(8)})
	refusesTell(t, impl.Resp{Kind: 16, N: 2, Words: []int{1, 2}})
}

func TestToldNumbersThatAreNone(t *testing.T) {
	for _, k := range tellKinds {
		right := tellOf(k, 0, k.least)
		for _, n := range noWords {
			a := right
			a.At = n
			refusesTell(t, a)
			a = right
			a.N = n
			refusesTell(t, a)
			for _, count := range []int{k.least, k.most} {
				for _, i := range []int{0, count / 2, count - 1} {
					if a = tellOf(k, 0, count); k.words {
						a.Words[i] = n
						refusesTell(t, a)
					}
				}
			}
		}
	}
}

func TestToldEmptyListsAreNone(t *testing.T) {
	for _, k := range tellKinds {
		for _, a := range []impl.Resp{tellOf(k, 3, k.least), {Kind: k.kind, Fault: 2}} {
			if a.Words == nil {
				a.Words = make([]int, 0, 5)
			}
			if a.Bits == nil {
				a.Bits = make([]bool, 0, 5)
			}
			if b := impl.PutResp(a); !impl.RespOk(a) || !bytes.Equal(b, slowTell(a)) {
				t.Errorf("%v, with empty lists, is %v", a, b)
			}
		}
	}
}

func TestToldKindsThatAreNone(t *testing.T) {
	kinds := []int{math.MinInt, math.MinInt + 3, math.MaxInt, -1, -3, -128, -125, 257, 259, 256 + 23, 384 + 3, 1<<32 + 3}
	for n := range 256 {
		kinds = append(kinds, n)
	}
	for _, kind := range kinds {
		if isAskKind(kind) {
			continue
		}
		refusesTell(t, impl.Resp{Kind: kind})
		for _, fault := range []int{1, 2, 255} {
			refusesTell(t, impl.Resp{Kind: kind, Fault: fault})
		}
		for _, k := range tellKinds {
			a := tellOf(k, 3, k.least)
			a.Kind = kind
			refusesTell(t, a)
		}
	}
	refusesTell(t, impl.Resp{})
}

// refusesTold wants the zero answer and this code.
func refusesTold(t *testing.T, b []byte, code int) {
	t.Helper()
	if a, got := impl.GetResp(b); got != code || !equalResp(a, impl.Resp{}) {
		t.Errorf("GetResp(%v) is %v, %d, not %d", b, a, got, code)
	}
}

func TestGetRespNoKind(t *testing.T) {
	refusesTold(t, nil, impl.PduKind)
	refusesTold(t, []byte{}, impl.PduKind)
	for first := range 256 {
		code := impl.PduKind
		if isAskKind(first % 128) {
			code = impl.PduForm
		}
		refusesTold(t, []byte{byte(first)}, code)
		refusesTold(t, append([]byte{byte(first)}, make([]byte, 300)...), code)
		if code == impl.PduKind {
			for _, behind := range [][]byte{{2}, {0, 1, 0, 1}, {2, 0, 7}, {0, 3, 255, 0}, {0, 4, 0, 242, 0, 37}} {
				refusesTold(t, append([]byte{byte(first)}, behind...), code)
			}
		}
	}
}

func TestGetRespCutOrLonger(t *testing.T) {
	for _, a := range append(rightTold(), rightFaults()...) {
		b := slowTell(a)
		refusesTold(t, b[:0], impl.PduKind)
		for n := 1; n < len(b); n++ {
			refusesTold(t, b[:n:n], impl.PduForm)
			refusesTold(t, b[:n], impl.PduForm) // what lies behind the length is not read
		}
		for _, more := range [][]byte{{0}, {1}, {255}, {0, 0}, {255, 0}, make([]byte, 300)} {
			refusesTold(t, append(bytes.Clone(b), more...), impl.PduForm)
		}
	}
}

func TestGetRespOfFaultBytes(t *testing.T) {
	for _, k := range tellKinds {
		first := byte(k.kind + 128)
		refusesTold(t, []byte{first, 0}, impl.PduForm)
		for second := 1; second < 256; second++ {
			b := []byte{first, byte(second)}
			if a, code := impl.GetResp(b); code != impl.PduGood || !equalResp(a, impl.Resp{Kind: k.kind, Fault: second}) {
				t.Errorf("GetResp(%v) is %v, %d", b, a, code)
			}
			refusesTold(t, append(b, 0), impl.PduForm)
		}
		// What would be an answer without the 128 is none with it.
		b := slowTell(tellOf(k, 3, k.least))
		b[0] = first
		refusesTold(t, b, impl.PduForm)
	}
}

func TestGetRespCountOfBytes(t *testing.T) {
	for _, k := range tellKinds {
		if k.at {
			continue
		}
		for follow := range 300 {
			b := append([]byte{byte(k.kind), 0}, sampleBytes(uint32(follow), follow)...)
			for count := range 256 {
				b[1] = byte(count)
				if right := count == follow && count > 0 && count <= 250 && (k.bits || count%2 == 0); !right {
					refusesTold(t, b, impl.PduForm)
				} else if a, code := impl.GetResp(b); code != impl.PduGood || !bytes.Equal(slowTell(a), b) {
					t.Errorf("GetResp(%v) is %v, %d", b, a, code)
				}
			}
		}
	}
}

func TestGetRespWrongN(t *testing.T) {
	for _, k := range tellKinds {
		if !k.n {
			continue
		}
		for _, n := range []int{0, k.most + 1, k.most + 2, 2000, 32768, 65535} {
			refusesTold(t, twoBytes([]byte{byte(k.kind)}, 0, n), impl.PduForm)
			refusesTold(t, twoBytes([]byte{byte(k.kind)}, 65535, n), impl.PduForm)
		}
	}
}

func TestGetRespOfTwoCoilBytes(t *testing.T) {
	for upper := range 256 {
		for lower := range 256 {
			b := []byte{5, 0, 172, byte(upper), byte(lower)}
			switch {
			case lower == 0 && (upper == 0 || upper == 255):
				a, code := impl.GetResp(b)
				if want := (impl.Resp{Kind: 5, At: 172, Bits: []bool{upper == 255}}); code != impl.PduGood || !equalResp(a, want) {
					t.Errorf("GetResp(%v) is %v, %d", b, a, code)
				}
			default:
				refusesTold(t, b, impl.PduForm)
			}
		}
	}
}

// slowTold is the answer of bytes that are one, each field and the length asked for as chapter 4 words it.
func slowTold(b []byte) (impl.Resp, bool) {
	if len(b) < 2 {
		return impl.Resp{}, false
	}
	if b[0] >= 128 {
		return impl.Resp{Kind: int(b[0]) - 128, Fault: int(b[1])}, len(b) == 2 && b[1] != 0
	}
	a := impl.Resp{Kind: int(b[0])}
	follow := len(b) - 2
	switch a.Kind {
	case 1, 2:
		for i := range 8 * follow {
			a.Bits = append(a.Bits, int(b[2+i/8])/[]int{1, 2, 4, 8, 16, 32, 64, 128}[i%8]%2 == 1)
		}
		return a, int(b[1]) == follow && follow >= 1 && follow <= 250
	case 3, 4, 23:
		for i := 2; i+1 < len(b); i += 2 {
			a.Words = append(a.Words, int(b[i])*256+int(b[i+1]))
		}
		return a, int(b[1]) == follow && follow%2 == 0 && follow >= 2 && follow <= 250
	}
	return slowToldAt(a, b)
}

func slowToldAt(a impl.Resp, b []byte) (impl.Resp, bool) {
	if a.Kind == 22 && len(b) != 7 || a.Kind != 22 && len(b) != 5 {
		return a, false
	}
	word := func(at int) int { return int(b[at])*256 + int(b[at+1]) }
	a.At = word(1)
	switch a.Kind {
	case 5:
		a.Bits = []bool{b[3] == 255}
		return a, (b[3] == 255 || b[3] == 0) && b[4] == 0
	case 6:
		a.Words = []int{word(3)}
		return a, true
	case 22:
		a.Words = []int{word(3), word(5)}
		return a, true
	case 15:
		a.N = word(3)
		return a, a.N >= 1 && a.N <= 1968
	}
	a.N = word(3)
	return a, a.N >= 1 && a.N <= 123
}

// toldAsWorded holds GetResp of b, whose first byte is a Kind, with 128 or without, against the slow one.
func toldAsWorded(t *testing.T, b []byte) {
	t.Helper()
	a, code := impl.GetResp(b)
	want, ok := slowTold(b)
	if !ok {
		want = impl.Resp{}
	}
	if (code == impl.PduGood) != ok || !ok && code != impl.PduForm || !equalResp(a, want) {
		t.Fatalf("GetResp(%v) is %v, %d, not %v, %v", b, a, code, want, ok)
	}
	if ok && (!impl.RespOk(a) || !bytes.Equal(impl.PutResp(a), b)) {
		t.Fatalf("%v does not come back of %v", b, a)
	}
}

func TestGetRespOfEveryOtherByte(t *testing.T) {
	var list [][]byte
	for _, k := range tellKinds {
		list = append(list, slowTell(tellOf(k, 255, k.least)), slowTell(tellOf(k, 65535, k.most)), []byte{byte(k.kind + 128), 1}, []byte{byte(k.kind + 128), 1, 0, 0, 1})
	}
	for _, b := range list {
		for i := 1; i < min(len(b), 20); i++ {
			for x := range 256 {
				other := bytes.Clone(b)
				other[i] = byte(x)
				toldAsWorded(t, other)
			}
		}
		for _, k := range tellKinds {
			for _, first := range []int{k.kind, k.kind + 128} {
				other := bytes.Clone(b)
				other[0] = byte(first)
				toldAsWorded(t, other)
			}
		}
	}
}

func TestGetRespOfShortLists(t *testing.T) {
	for _, k := range tellKinds {
		for _, first := range []int{k.kind, k.kind + 128} {
			for second := range 256 {
				for follow := range 12 {
					toldAsWorded(t, append([]byte{byte(first), byte(second)}, sampleBytes(uint32(second), follow)...))
					toldAsWorded(t, append([]byte{byte(first), byte(second)}, make([]byte, follow)...))
				}
			}
		}
	}
}

// fitting gives what a device may tell to q: every bit true and every word 7 where it reads.
func fitting(q impl.Req) impl.Resp {
	a := impl.Resp{Kind: q.Kind}
	switch q.Kind {
	case 1, 2:
		a.Bits = allBits(q.N)
		for len(a.Bits)%8 != 0 {
			a.Bits = append(a.Bits, false)
		}
	case 3, 4, 23:
		a.Words = slices.Repeat([]int{7}, q.N)
	case 5:
		a.At, a.Bits = q.At, slices.Clone(q.Bits)
	case 6, 22:
		a.At, a.Words = q.At, slices.Clone(q.Words)
	case 15, 16:
		a.At, a.N = q.At, len(q.Bits)+len(q.Words)
	}
	return a
}

func doesNotSuit(t *testing.T, q impl.Req, a impl.Resp) {
	t.Helper()
	if impl.Suits(q, a) {
		t.Errorf("%v suits %v", a, q)
	}
}

func TestSuitsWhatFits(t *testing.T) {
	for _, q := range rightQuestions() {
		if a := fitting(q); !impl.RespOk(a) || !impl.Suits(q, a) {
			t.Errorf("%v does not suit %v", a, q)
		}
	}
	for n := 1; n <= 2000; n++ {
		for _, kind := range []int{1, 2} {
			q := impl.Req{Kind: kind, N: n}
			a := fitting(q)
			if !impl.Suits(q, a) || !impl.Suits(q, impl.Resp{Kind: kind, Bits: make([]bool, len(a.Bits))}) {
				t.Errorf("%d Bits do not suit %v", len(a.Bits), q)
			}
		}
	}
}

func TestSuitsEveryFaultOfItsKind(t *testing.T) {
	for _, k := range askKinds {
		q := askAt(k.kind, 3, 1)
		for fault := 1; fault <= 255; fault++ {
			for _, other := range askKinds {
				a := impl.Resp{Kind: other.kind, Fault: fault}
				if got := impl.Suits(q, a); got != (k.kind == other.kind) {
					t.Errorf("Suits(%v, %v) is %v", q, a, got)
				}
			}
		}
		for _, fault := range append([]int{0}, noFaults...) {
			doesNotSuit(t, q, impl.Resp{Kind: k.kind, Fault: fault})
		}
	}
}

func TestSuitsNoOtherKind(t *testing.T) {
	for _, k := range askKinds {
		for _, n := range []int{1, min(2, k.most), min(8, k.most), k.most} {
			q := askAt(k.kind, 3, n)
			for _, other := range askKinds {
				if other.kind == k.kind {
					continue
				}
				a := fitting(q)
				a.Kind = other.kind
				doesNotSuit(t, q, a)
				if n <= other.most {
					doesNotSuit(t, q, fitting(askAt(other.kind, 3, n)))
				}
			}
		}
	}
}

func TestSuitsNoOtherBits(t *testing.T) {
	for _, kind := range []int{1, 2} {
		for _, n := range []int{1, 2, 7, 8, 9, 15, 16, 17, 1000, 1992, 1993, 1999, 2000} {
			q := impl.Req{Kind: kind, At: 5, N: n}
			right := fitting(q)
			for behind := n; behind < len(right.Bits); behind++ {
				a := fitting(q)
				a.Bits[behind] = true
				doesNotSuit(t, q, a)
			}
			for _, other := range []int{len(right.Bits) - 8, len(right.Bits) - 1, len(right.Bits) + 1, len(right.Bits) + 8} {
				doesNotSuit(t, q, impl.Resp{Kind: kind, Bits: make([]bool, other)})
			}
			if n%8 != 0 {
				doesNotSuit(t, q, impl.Resp{Kind: kind, Bits: make([]bool, n)})
			}
		}
	}
}

func TestSuitsNoOtherWords(t *testing.T) {
	for _, kind := range []int{3, 4, 23} {
		for _, n := range []int{1, 2, 3, 60, 124, 125} {
			q := askAt(kind, 5, n)
			for words := 0; words <= 127; words++ {
				a := impl.Resp{Kind: kind, Words: sampleWords(uint32(words), words)}
				if got := impl.Suits(q, a); got != (words == n) {
					t.Errorf("Suits(%v, %v) is %v", q, a, got)
				}
			}
		}
	}
	// A ReadWrite is told what it reads, not what it writes.
	q := bothAt(0, 2, 0, 3)
	doesNotSuit(t, q, impl.Resp{Kind: 23, Words: q.Words})
}

func TestSuitsNoOtherPlace(t *testing.T) {
	for _, kind := range []int{5, 6, 15, 16, 22} {
		for _, at := range []int{0, 1, 256, 65534} {
			q := askAt(kind, at, 1)
			for _, other := range []int{at - 1, at + 1, at ^ 256, 65535 - at} {
				a := fitting(q)
				a.At = other
				doesNotSuit(t, q, a)
			}
		}
	}
}

func TestSuitsNoOtherEcho(t *testing.T) {
	for _, bit := range []bool{true, false} {
		q := impl.Req{Kind: 5, At: 3, Bits: []bool{bit}}
		doesNotSuit(t, q, impl.Resp{Kind: 5, At: 3, Bits: []bool{!bit}})
		doesNotSuit(t, q, impl.Resp{Kind: 5, At: 3})
		doesNotSuit(t, q, impl.Resp{Kind: 5, At: 3, Bits: []bool{bit, bit}})
	}
	for _, n := range []int{0, 1, 256, 65535} {
		q := impl.Req{Kind: 6, At: 3, Words: []int{n}}
		for _, words := range [][]int{{n ^ 1}, {n ^ 256}, {}, {n, n}, {n, 0}} {
			doesNotSuit(t, q, impl.Resp{Kind: 6, At: 3, Words: words})
		}
		q = impl.Req{Kind: 22, At: 3, Words: []int{n, 9}}
		for _, words := range [][]int{{n ^ 1, 9}, {n, 8}, {9, n}, {n}, {n, 9, 9}, {}} {
			doesNotSuit(t, q, impl.Resp{Kind: 22, At: 3, Words: words})
		}
	}
	for _, kind := range []int{15, 16} {
		for _, n := range []int{1, 2, 8, 123} {
			q := askAt(kind, 3, n)
			for other := range 140 {
				a := impl.Resp{Kind: kind, At: 3, N: other}
				if got := impl.Suits(q, a); got != (other == n) {
					t.Errorf("Suits(%v, %v) is %v", q, a, got)
				}
			}
		}
	}
	doesNotSuit(t, askAt(15, 3, 1968), impl.Resp{Kind: 15, At: 3, N: 1967})
	doesNotSuit(t, askAt(15, 3, 1968), impl.Resp{Kind: 15, At: 3, N: 1969})
}

// wrongQuestions gives questions of every kind that are not right.
func wrongQuestions() []impl.Req {
	list := []impl.Req{{}, {Kind: 7, N: 1}, {Kind: 131, N: 1}, {Kind: math.MaxInt, N: 1}, {Kind: math.MinInt, N: 1}}
	for _, k := range askKinds {
		for _, at := range []int{-1, 65536, math.MaxInt, math.MinInt} {
			list = append(list, askAt(k.kind, 0, 1))
			list[len(list)-1].At = at
		}
		other := askAt(k.kind, 0, 1)
		other.WAt = -1
		few := impl.Req{Kind: k.kind}
		list = append(list, other, few)
	}
	return append(list, impl.Req{Kind: 1, At: 65535, N: 2}, impl.Req{Kind: 15, At: 65535, Bits: allBits(2)}, impl.Req{Kind: 16, At: 65535, Words: []int{1, 2}},
		impl.Req{Kind: 3, N: 126}, impl.Req{Kind: 5, N: 1, Bits: []bool{true}}, impl.Req{Kind: 6, Words: []int{65536}}, impl.Req{Kind: 22, Words: []int{1}})
}

func TestWrongQuestionsAreNotSuited(t *testing.T) {
	for _, q := range wrongQuestions() {
		doesNotSuit(t, q, impl.Resp{})
		doesNotSuit(t, q, fitting(q))
		for _, fault := range []int{1, 2, 255} {
			doesNotSuit(t, q, impl.Resp{Kind: q.Kind, Fault: fault})
		}
	}
}

func TestFaultOf(t *testing.T) {
	for _, q := range rightQuestions() {
		for _, fault := range []int{1, 2, 3, 11, 254, 255} {
			a := impl.FaultOf(q, fault)
			if want := (impl.Resp{Kind: q.Kind, Fault: fault}); !equalResp(a, want) {
				t.Fatalf("FaultOf(%v, %d) is %v", q, fault, a)
			}
			if !impl.RespOk(a) || !impl.Suits(q, a) {
				t.Fatalf("%v does not suit %v", a, q)
			}
		}
		for _, fault := range append([]int{0}, noFaults...) {
			if a := impl.FaultOf(q, fault); !equalResp(a, impl.Resp{}) {
				t.Fatalf("FaultOf(%v, %d) is %v", q, fault, a)
			}
		}
	}
	for _, q := range wrongQuestions() {
		for _, fault := range []int{1, 2, 255, 0, 256} {
			if a := impl.FaultOf(q, fault); !equalResp(a, impl.Resp{}) {
				t.Errorf("FaultOf(%v, %d) is %v", q, fault, a)
			}
		}
	}
}

// roomyResp gives a with marked room behind its lists, and a check that none of it was written into.
func roomyResp(t *testing.T, a impl.Resp) (impl.Resp, func(what string)) {
	t.Helper()
	words := append(slices.Clone(a.Words), 111, 222, 333)
	bits := append(slices.Clone(a.Bits), true, false, true)
	wordsBefore, bitsBefore := slices.Clone(words), slices.Clone(bits)
	roomyOne := a
	roomyOne.Words, roomyOne.Bits = words[:len(a.Words)], bits[:len(a.Bits)]
	return roomyOne, func(what string) {
		t.Helper()
		if !slices.Equal(words, wordsBefore) || !slices.Equal(bits, bitsBefore) {
			t.Errorf("%s of %v: the argument became %v, %v", what, a, words, bits)
		}
	}
}

// sampleTold gives right and wrong answers of every kind.
func sampleTold() []impl.Resp {
	list := []impl.Resp{{}, {Kind: 7, Words: []int{1}}, {Kind: 5, At: -1, Bits: []bool{true}}, {Kind: 3, Fault: 2, Words: []int{1}}}
	for _, k := range tellKinds {
		list = append(list, tellOf(k, 3, k.least), tellOf(k, 3, k.most), tellOf(k, 3, k.most+1), impl.Resp{Kind: k.kind, Fault: 2})
	}
	return list
}

func TestTellLeavesItsArguments(t *testing.T) {
	for _, a := range sampleTold() {
		arg, unchanged := roomyResp(t, a)
		impl.RespOk(arg)
		unchanged("RespOk")
		b := impl.PutResp(arg)
		unchanged("PutResp")
		spoil(b)
		unchanged("what PutResp answered")
		if again := impl.PutResp(arg); impl.RespOk(a) && !bytes.Equal(again, slowTell(a)) {
			t.Errorf("PutResp(%v) is %v the second time", a, again)
		}
	}
}

func TestSuitsLeavesItsArguments(t *testing.T) {
	for _, k := range askKinds {
		for _, n := range []int{1, min(3, k.most), k.most, k.most + 1} {
			q, sameQuestion := roomyReq(t, askAt(k.kind, 3, n))
			for _, a := range append(sampleTold(), fitting(q)) {
				arg, sameAnswer := roomyResp(t, a)
				impl.Suits(q, arg)
				sameAnswer("Suits")
				sameQuestion("Suits")
			}
			spoilResp(impl.FaultOf(q, 2))
			spoilResp(impl.FaultOf(q, 0))
			sameQuestion("FaultOf")
		}
	}
}

// spoilResp writes over all of a's lists and the room behind them.
func spoilResp(a impl.Resp) {
	for i := range a.Words[:cap(a.Words)] {
		a.Words[:cap(a.Words)][i] ^= 65535
	}
	for i, bit := range a.Bits[:cap(a.Bits)] {
		a.Bits[:cap(a.Bits)][i] = !bit
	}
}

func TestGetRespAnswersNewMemory(t *testing.T) {
	for _, k := range tellKinds {
		for _, a := range []impl.Resp{tellOf(k, 3, k.least), tellOf(k, 3, k.most), {Kind: k.kind, Fault: 2}} {
			b, unchanged := roomy(t, slowTell(a))
			first, _ := impl.GetResp(b)
			second, _ := impl.GetResp(b)
			unchanged("GetResp")
			spoilResp(first)
			unchanged("what GetResp answered")
			if !equalResp(second, a) {
				t.Errorf("two answers of %v share memory", b)
			}
			third, _ := impl.GetResp(b)
			spoil(b)
			if !equalResp(third, a) {
				t.Errorf("the answer of GetResp shares memory with its bytes: %v", third)
			}
		}
	}
	for _, wrong := range [][]byte{{}, {7}, {131}, {131, 0}, {1, 2, 3}, {3, 3, 1, 2, 3}, {5, 0, 0, 1, 0}, {15, 0, 0, 0, 0}} {
		b, unchanged := roomy(t, wrong)
		impl.GetResp(b)
		unchanged("GetResp, refused")
	}
}
