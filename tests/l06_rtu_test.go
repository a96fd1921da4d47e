package tests

import (
	"bytes"
	"math"
	"slices"
	"testing"

	"loop.example/g00129/impl"
)

const lastTick = impl.MaxTick

// later is the tick n behind this one; behind the last comes 0.
func later(tick int, n int) int { return (tick + n) % (lastTick + 1) }

// frameOf is the frame of a unit and bytes, with the sum of chapter 1 step by step.
func frameOf(unit int, pdu []byte) []byte {
	b := append([]byte{byte(unit)}, pdu...)
	sum := slowCrc(b)
	return append(b, byte(sum%256), byte(sum/256))
}

func equalRtu(a impl.Rtu, b impl.Rtu) bool {
	return bytes.Equal(a.Buf, b.Buf) && a.Last == b.Last && a.Bad == b.Bad && a.Half == b.Half && a.Whole == b.Whole
}

// getsFrame wants this unit and these bytes of b.
func getsFrame(t *testing.T, b []byte, unit int, pdu []byte) {
	t.Helper()
	if u, p, code := impl.GetRtu(b); u != unit || !bytes.Equal(p, pdu) || code != impl.FrameGood {
		t.Errorf("GetRtu of %d bytes, %x, is %d, %x, %d, not %d, %x", len(b), b, u, p, code, unit, pdu)
	}
}

// getsNoFrame wants 0, nothing and this code of b.
func getsNoFrame(t *testing.T, b []byte, code int) {
	t.Helper()
	if u, p, c := impl.GetRtu(b); u != 0 || len(p) != 0 || c != code {
		t.Errorf("GetRtu of %d bytes, %x, is %d, %x, %d, not %d", len(b), b, u, p, c, code)
	}
}

func TestRtuNames(t *testing.T) {
	got := []int{impl.MaxAdu, impl.FrameGood, impl.FrameShort, impl.FrameLong, impl.FrameSum, impl.FrameForm, impl.FrameGap}
	if want := []int{256, 0, 1, 2, 3, 4, 5}; !slices.Equal(got, want) {
		t.Errorf("the constants are %v, not %v", got, want)
	}
}

func TestPutRtuKnown(t *testing.T) {
	known := []struct {
		unit int
		pdu  string
		want string
	}{
		{1, "0300000001", "010300000001840A"},
		{1, "03000A0001", "0103000A0001A408"},
		{17, "03006B0003", "1103006B00037687"},
		{2, "07", "02074112"},
	}
	for _, k := range known {
		pdu, _ := impl.UnHex(k.pdu)
		if got := impl.Hex(impl.PutRtu(k.unit, pdu)); got != k.want {
			t.Errorf("PutRtu(%d, %s) is %s, not %s", k.unit, k.pdu, got, k.want)
		}
		frame, _ := impl.UnHex(k.want)
		getsFrame(t, frame, k.unit, pdu)
	}
}

func TestRtuFramesComeBack(t *testing.T) {
	for _, unit := range []int{0, 1, 2, 9, 127, 128, 247, 248, 254, 255} {
		for n := 1; n <= 253; n++ {
			for _, pdu := range [][]byte{make([]byte, n), sampleBytes(uint32(n), n), bytes.Repeat([]byte{255}, n)} {
				b := impl.PutRtu(unit, pdu)
				if !bytes.Equal(b, frameOf(unit, pdu)) {
					t.Fatalf("PutRtu(%d, %x) is %x", unit, pdu, b)
				}
				getsFrame(t, b, unit, pdu)
			}
		}
	}
	for unit := range 256 {
		getsFrame(t, impl.PutRtu(unit, []byte{byte(unit)}), unit, []byte{byte(unit)})
	}
}

func TestPutRtuRefuses(t *testing.T) {
	for _, unit := range []int{-1, -2, -256, -255, 256, 257, 511, 512, 1 << 32, math.MaxInt, math.MaxInt - 1, math.MinInt, math.MinInt + 1} {
		for _, n := range []int{0, 1, 5, 253, 254} {
			if b := impl.PutRtu(unit, make([]byte, n)); len(b) != 0 {
				t.Errorf("PutRtu(%d, %d bytes) is %x", unit, n, b)
			}
		}
	}
	for _, unit := range []int{0, 1, 255} {
		for _, pdu := range [][]byte{nil, {}, make([]byte, 0, 9), make([]byte, 254), make([]byte, 255), make([]byte, 256), make([]byte, 600)} {
			if b := impl.PutRtu(unit, pdu); len(b) != 0 {
				t.Errorf("PutRtu(%d, %d bytes) is %x", unit, len(pdu), b)
			}
		}
		for _, n := range []int{1, 253} {
			if b := impl.PutRtu(unit, make([]byte, n)); len(b) != n+3 {
				t.Errorf("PutRtu(%d, %d bytes) has %d bytes", unit, n, len(b))
			}
		}
	}
}

func TestRtuSumHasItsLowerByteFirst(t *testing.T) {
	for n := 1; n <= 253; n++ {
		pdu := sampleBytes(uint32(n)+90, n)
		b := impl.PutRtu(7, pdu)
		sum := slowCrc(b[:n+1])
		if int(b[n+1]) != sum%256 || int(b[n+2]) != sum/256 {
			t.Errorf("behind %x stands %x, its sum is %x", b[:n+1], b[n+1:], sum)
		}
		if b[n+1] != b[n+2] {
			b[n+1], b[n+2] = b[n+2], b[n+1]
			getsNoFrame(t, b, impl.FrameSum)
		}
	}
}

// Of every pair of bytes behind a unit and a byte, one alone is the sum.
func TestGetRtuOfEverySum(t *testing.T) {
	for _, pdu := range [][]byte{{0}, {3}, {255}, {4, 1}} {
		sum, good := slowCrc(append([]byte{9}, pdu...)), 0
		for n := range 65536 {
			b := append(append([]byte{9}, pdu...), byte(n), byte(n>>8))
			if _, _, code := impl.GetRtu(b); code == impl.FrameGood {
				good++
			}
			if n == sum {
				getsFrame(t, b, 9, pdu)
			}
		}
		if good != 1 {
			t.Errorf("%d sums of %x are taken", good, pdu)
		}
	}
}

func TestGetRtuSizes(t *testing.T) {
	for _, n := range []int{0, 1, 2, 3} {
		getsNoFrame(t, make([]byte, n), impl.FrameShort)
		getsNoFrame(t, sampleBytes(91, n), impl.FrameShort)
		getsNoFrame(t, make([]byte, n, 300), impl.FrameShort)
	}
	getsNoFrame(t, nil, impl.FrameShort)
	for _, n := range []int{4, 5, 255, 256} {
		pdu := sampleBytes(92, n-3)
		getsFrame(t, frameOf(5, pdu), 5, pdu)
		getsNoFrame(t, make([]byte, n), impl.FrameSum)
	}
	for _, n := range []int{257, 258, 300, 600} {
		getsNoFrame(t, make([]byte, n), impl.FrameLong)
		getsNoFrame(t, sampleBytes(93, n), impl.FrameLong)
	}
}

// A sum that is right does not help what is too short or too long, and one that is wrong does not show there.
func TestGetRtuTellsTheFirstReason(t *testing.T) {
	for _, n := range []int{0, 1} {
		whole := withCrc(sampleBytes(94, n))
		getsNoFrame(t, whole, impl.FrameShort)
		whole[0] ^= 1
		getsNoFrame(t, whole, impl.FrameShort)
	}
	for _, n := range []int{255, 256, 300} {
		whole := withCrc(sampleBytes(95, n))
		getsNoFrame(t, whole, impl.FrameLong)
		whole[0] ^= 1
		getsNoFrame(t, whole, impl.FrameLong)
	}
}

func TestGetRtuTellsATurnedBit(t *testing.T) {
	for _, n := range []int{1, 2, 5, 100, 253} {
		b := frameOf(17, sampleBytes(96, n))
		for bit := range 8 * len(b) {
			b[bit/8] ^= 1 << (bit % 8)
			getsNoFrame(t, b, impl.FrameSum)
			b[bit/8] ^= 1 << (bit % 8)
		}
		getsFrame(t, b, 17, b[1:n+1])
	}
}

func TestGetRtuCutOrLonger(t *testing.T) {
	b := frameOf(3, sampleBytes(97, 20))
	for n := range len(b) {
		want := impl.FrameSum
		if n < 4 {
			want = impl.FrameShort
		}
		getsNoFrame(t, b[:n], want)
	}
	getsNoFrame(t, append(slices.Clone(b), 1), impl.FrameSum)
}

func TestRtuNew(t *testing.T) {
	numbers := []int{math.MinInt, math.MinInt + 1, -1000, -1, 0, 1, 2, 3, 499, 500, 501, 999, 1000, 1001, 1002, 1 << 32, math.MaxInt - 1, math.MaxInt}
	for _, half := range numbers {
		for _, whole := range append(numbers, half, max(half, math.MinInt+1)-1, min(half, math.MaxInt-1)+1) {
			want := impl.Rtu{Half: half, Whole: whole}
			right := half >= 1 && half <= 1000 && whole >= half && whole <= 1000
			if !right {
				want = impl.Rtu{}
			}
			r := impl.RtuNew(half, whole)
			if !equalRtu(r, want) || impl.RtuOk(r) != right {
				t.Errorf("RtuNew(%d, %d) is %v, RtuOk %v", half, whole, r, impl.RtuOk(r))
			}
			if impl.RtuOk(impl.Rtu{Half: half, Whole: whole}) != right {
				t.Errorf("RtuOk of Half %d and Whole %d is %v", half, whole, !right)
			}
		}
	}
}

// rightRtus gives ones that are right: each field at its ends.
func rightRtus() []impl.Rtu {
	var list []impl.Rtu
	for _, last := range []int{0, 1, 100, lastTick - 1, lastTick} {
		for _, silence := range [][2]int{{1, 1}, {1, 2}, {2, 4}, {3, 3}, {1, 1000}, {999, 1000}, {1000, 1000}} {
			for _, n := range []int{0, 1, 2, 3, 4, 5, 255, 256, 257} {
				r := impl.Rtu{Buf: sampleBytes(98, n), Last: last, Half: silence[0], Whole: silence[1]}
				if n >= 4 && n <= 256 {
					framed := r
					framed.Buf = frameOf(8, r.Buf[:n-3])
					list = append(list, framed)
				}
				list = append(list, r)
				if n >= 2 {
					r.Bad = true
					list = append(list, r)
				}
			}
		}
	}
	return list
}

// wrongRtus gives ones that are not right: a field passed by one, or far from it.
func wrongRtus() []impl.Rtu {
	good := frameOf(8, []byte{1, 2})
	list := []impl.Rtu{{}, {Buf: good}, {Buf: good, Last: 7}, {Buf: good, Bad: true},
		{Buf: make([]byte, 258), Half: 2, Whole: 4}, {Buf: make([]byte, 259), Half: 2, Whole: 4}, {Buf: make([]byte, 600), Bad: true, Half: 1, Whole: 1000}}
	for _, last := range noTicks {
		list = append(list, impl.Rtu{Last: last, Half: 2, Whole: 4}, impl.Rtu{Buf: good, Last: last, Half: 2, Whole: 4}, impl.Rtu{Buf: good, Last: last, Bad: true, Half: 1, Whole: 1})
	}
	for _, s := range [][2]int{{0, 0}, {0, 1}, {0, 1000}, {-1, 4}, {-1, -1}, {2, 1}, {2, 0}, {1000, 999}, {1, 1001}, {1000, 1001}, {1001, 1001}, {1001, 1000}, {1, math.MaxInt},
		{math.MaxInt, math.MaxInt}, {math.MinInt, math.MinInt}, {math.MinInt, 4}, {4, math.MinInt}, {math.MaxInt, math.MinInt}} {
		list = append(list, impl.Rtu{Half: s[0], Whole: s[1]}, impl.Rtu{Buf: good, Last: 7, Half: s[0], Whole: s[1]}, impl.Rtu{Buf: good, Last: 7, Bad: true, Half: s[0], Whole: s[1]})
	}
	// nothing was heard: there is no silence within
	return append(list, impl.Rtu{Bad: true, Half: 2, Whole: 4}, impl.Rtu{Buf: []byte{}, Last: 7, Bad: true, Half: 2, Whole: 4}, impl.Rtu{Buf: make([]byte, 0, 9), Last: lastTick, Bad: true, Half: 1, Whole: 1})
}

func TestRtuOk(t *testing.T) {
	for _, r := range rightRtus() {
		if !impl.RtuOk(r) {
			t.Errorf("%v is not RtuOk", r)
		}
	}
	for _, r := range wrongRtus() {
		if impl.RtuOk(r) {
			t.Errorf("%v is RtuOk", r)
		}
	}
	if !impl.RtuOk(impl.Rtu{Buf: make([]byte, 257, 900), Half: 2, Whole: 4}) || !impl.RtuOk(impl.Rtu{Buf: make([]byte, 0, 900), Half: 2, Whole: 4}) {
		t.Error("RtuOk goes by the length alone")
	}
}

// slowGap goes from a tick to another one by the words of chapter 1: behind the last comes 0.
func slowGap(from int, to int) int {
	if to < from {
		return lastTick - from + 1 + to
	}
	return to - from
}

// slowEnd is what a silence makes of what was heard, as chapter 6 words it.
func slowEnd(r impl.Rtu) impl.Got {
	n := len(r.Buf)
	switch {
	case r.Bad:
		return impl.Got{Code: impl.FrameGap}
	case n < 4:
		return impl.Got{Code: impl.FrameShort}
	case n > 256:
		return impl.Got{Code: impl.FrameLong}
	case !bytes.Equal(withCrc(r.Buf[:n-2]), r.Buf):
		return impl.Got{Code: impl.FrameSum}
	}
	return impl.Got{Unit: int(r.Buf[0]), Pdu: bytes.Clone(r.Buf[1 : n-2])}
}

// slowWait is RtuWait of a right one and a tick, as chapter 6 words it.
func slowWait(r impl.Rtu, tick int) (impl.Rtu, []impl.Got) {
	if len(r.Buf) == 0 || slowGap(r.Last, tick) < r.Whole {
		return r, nil
	}
	return impl.Rtu{Last: r.Last, Half: r.Half, Whole: r.Whole}, []impl.Got{slowEnd(r)}
}

// slowHear is RtuHear of a right one and a tick, as chapter 6 words it.
func slowHear(r impl.Rtu, b byte, tick int) (impl.Rtu, []impl.Got) {
	r, told := slowWait(r, tick)
	if len(r.Buf) > 0 && slowGap(r.Last, tick) >= r.Half {
		r.Bad = true
	}
	if heard := append(bytes.Clone(r.Buf), b); len(heard) <= 257 {
		r.Buf = heard
	}
	r.Last = tick
	return r, told
}

// waits wants that r, at this tick, is this then and tells these.
func waits(t *testing.T, r impl.Rtu, tick int, want impl.Rtu, told []impl.Got) {
	t.Helper()
	if is, got := impl.RtuWait(r, tick); !equalRtu(is, want) || !slices.EqualFunc(got, told, equalGot) {
		t.Errorf("RtuWait(%v, %d) is %v, %v, not %v, %v", r, tick, is, got, want, told)
	}
}

// hears wants that r, of this byte at this tick, is this then and tells these.
func hears(t *testing.T, r impl.Rtu, b byte, tick int, want impl.Rtu, told []impl.Got) {
	t.Helper()
	if is, got := impl.RtuHear(r, b, tick); !equalRtu(is, want) || !slices.EqualFunc(got, told, equalGot) {
		t.Errorf("RtuHear(%v, %d, %d) is %v, %v, not %v, %v", r, b, tick, is, got, want, told)
	}
}

func TestRtuRefuses(t *testing.T) {
	for _, r := range wrongRtus() {
		for _, tick := range append([]int{0, 1, 7, 8, 9, 11, 1000, 2000, lastTick}, noTicks...) {
			waits(t, r, tick, r, nil)
			hears(t, r, 3, tick, r, nil)
		}
	}
	for _, r := range rightRtus() {
		for _, tick := range noTicks {
			waits(t, r, tick, r, nil)
			hears(t, r, 3, tick, r, nil)
		}
	}
}

func TestRtuAsWorded(t *testing.T) {
	for _, r := range rightRtus() {
		for _, gap := range []int{0, 1, 2, r.Half - 1, r.Half, r.Half + 1, r.Whole - 1, r.Whole, r.Whole + 1, 1000, 1001, 5000, 1<<31 - 1, 1 << 31, 1<<31 + 1, lastTick - 1, lastTick} {
			tick := later(r.Last, gap)
			want, told := slowWait(r, tick)
			waits(t, r, tick, want, told)
			for _, b := range []byte{0, 7, 255} {
				want, told = slowHear(r, b, tick)
				hears(t, r, b, tick, want, told)
				if !impl.RtuOk(want) {
					t.Errorf("%v, which was heard, is not RtuOk", want)
				}
			}
		}
	}
}

// A silence of Half less one is none; of Half, it is a gap; of Whole less one, too; of Whole, it ends.
func TestWhichSilenceEndsWhat(t *testing.T) {
	pdu := []byte{3, 0, 0, 0, 1}
	frame := frameOf(6, pdu)
	good, gap := []impl.Got{{Unit: 6, Pdu: pdu}}, []impl.Got{{Code: impl.FrameGap}}
	for _, s := range [][2]int{{1, 2}, {2, 4}, {3, 9}, {1, 1000}, {500, 1000}, {999, 1000}} {
		half, whole := s[0], s[1]
		for _, silence := range []int{0, half - 1, half, whole - 1} {
			for _, first := range []int{0, 100, lastTick, lastTick - silence, lastTick - 2*silence} {
				for at := 1; at < len(frame); at++ {
					ticks := ticksWith(len(frame), at, silence, first)
					r, told := hearAll(impl.RtuNew(half, whole), frame, ticks)
					if len(told) != 0 || !bytes.Equal(r.Buf, frame) || r.Bad != (silence >= half) {
						t.Errorf("a silence of %d of %d, %d: %v, %v", silence, half, whole, r, told)
					}
					want := good
					if silence >= half {
						want = gap
					}
					after := impl.Rtu{Last: r.Last, Half: half, Whole: whole}
					waits(t, r, later(r.Last, whole-1), r, nil)
					waits(t, r, later(r.Last, whole), after, want)
				}
			}
		}
	}
}

// ticksWith gives n ticks from first on, all the same but for a silence ahead of that place.
func ticksWith(n int, at int, silence int, first int) []int {
	ticks := make([]int, n)
	for i := range ticks {
		ticks[i] = first
		if i >= at {
			ticks[i] = later(first, silence)
		}
	}
	return ticks
}

// hearAll hears each byte at its tick, and gathers what was told.
func hearAll(r impl.Rtu, b []byte, ticks []int) (impl.Rtu, []impl.Got) {
	var all []impl.Got
	for i, x := range b {
		var told []impl.Got
		r, told = impl.RtuHear(r, x, ticks[i])
		all = append(all, told...)
	}
	return r, all
}

// A silence of Whole parts one frame into two pieces, each told as what it is.
func TestAWholeSilencePartsAFrame(t *testing.T) {
	frame := frameOf(6, sampleBytes(99, 8))
	for _, s := range [][2]int{{1, 1}, {1, 2}, {2, 4}, {3, 3}, {1000, 1000}} {
		for at := 1; at < len(frame); at++ {
			for _, silence := range []int{s[1], s[1] + 1, 5000} {
				r, told := hearAll(impl.RtuNew(s[0], s[1]), frame, ticksWith(len(frame), at, silence, lastTick-3))
				want := []impl.Got{slowEnd(impl.Rtu{Buf: frame[:at]})}
				if !bytes.Equal(r.Buf, frame[at:]) || r.Bad || !slices.EqualFunc(told, want, equalGot) {
					t.Errorf("parted at %d: %v, %v", at, r, told)
				}
				waits(t, r, later(r.Last, s[1]), impl.Rtu{Last: r.Last, Half: s[0], Whole: s[1]}, []impl.Got{slowEnd(impl.Rtu{Buf: frame[at:]})})
			}
		}
	}
}

// Where Half and Whole are the same, each silence that parts ends: nothing is ever a gap.
func TestHalfAndWholeThatAreTheSame(t *testing.T) {
	for _, n := range []int{1, 2, 3, 1000} {
		first, second := frameOf(4, []byte{1, 2}), frameOf(5, []byte{3})
		both := slices.Concat(first, second)
		for _, silence := range []int{n - 1, n, n + 1} {
			r, told := hearAll(impl.RtuNew(n, n), both, ticksWith(len(both), len(first), silence, 10))
			if r.Bad {
				t.Errorf("a silence of %d of %d is a gap", silence, n)
			}
			if silence < n {
				if len(told) != 0 || !bytes.Equal(r.Buf, both) {
					t.Errorf("a silence of %d of %d: %v, %v", silence, n, r, told)
				}
				continue
			}
			if !slices.EqualFunc(told, []impl.Got{{Unit: 4, Pdu: []byte{1, 2}}}, equalGot) || !bytes.Equal(r.Buf, second) {
				t.Errorf("a silence of %d of %d: %v, %v", silence, n, r, told)
			}
		}
	}
}

// Frames of all sizes, byte by byte without silences: told behind the next silence, by RtuWait and by the next byte alike.
func TestFramesWithoutSilencesAreTold(t *testing.T) {
	for _, s := range [][2]int{{1, 1}, {2, 4}, {7, 20}, {1000, 1000}} {
		for _, first := range []int{0, 77, lastTick - 100, lastTick} {
			for _, n := range []int{1, 2, 3, 5, 100, 252, 253} {
				pdu := sampleBytes(uint32(n), n)
				frame := frameOf(n, pdu)
				ticks := make([]int, len(frame))
				for i := range ticks {
					ticks[i] = later(first, i*(s[0]-1))
				}
				r, told := hearAll(impl.RtuNew(s[0], s[1]), frame, ticks)
				if len(told) != 0 || !bytes.Equal(r.Buf, frame) || r.Bad || r.Last != ticks[len(ticks)-1] {
					t.Fatalf("%d bytes from %d on: %v, %v", n, first, r, told)
				}
				want := []impl.Got{{Unit: n, Pdu: pdu}}
				for _, silence := range []int{s[1], s[1] + 1, 100000, lastTick} {
					tick := later(r.Last, silence)
					waits(t, r, tick, impl.Rtu{Last: r.Last, Half: s[0], Whole: s[1]}, want)
					hears(t, r, 201, tick, impl.Rtu{Buf: []byte{201}, Last: tick, Half: s[0], Whole: s[1]}, want)
				}
			}
		}
	}
}

// One frame behind the other: the byte that ends one begins the next.
func TestFramesOneBehindTheOther(t *testing.T) {
	for _, byWait := range []bool{false, true} {
		r, tick := impl.RtuNew(2, 4), lastTick-40
		var told, want []impl.Got
		for unit := range 30 {
			pdu := sampleBytes(uint32(unit), unit+1)
			for _, x := range frameOf(unit, pdu) {
				var got []impl.Got
				r, got = impl.RtuHear(r, x, tick)
				told = append(told, got...)
				tick = later(tick, unit%2)
			}
			tick = later(tick, 4)
			if byWait {
				var got []impl.Got
				r, got = impl.RtuWait(r, tick)
				told = append(told, got...)
				waits(t, r, tick, r, nil)
			}
			want = append(want, impl.Got{Unit: unit, Pdu: pdu})
		}
		_, got := impl.RtuWait(r, tick)
		if told = append(told, got...); !slices.EqualFunc(told, want, equalGot) {
			t.Errorf("told by RtuWait: %v: %v, not %v", byWait, told, want)
		}
	}
}

func TestATurnedBitIsToldAsSum(t *testing.T) {
	frame := frameOf(11, sampleBytes(100, 12))
	for bit := range 8 * len(frame) {
		turned := bytes.Clone(frame)
		turned[bit/8] ^= 1 << (bit % 8)
		r, told := hearAll(impl.RtuNew(2, 4), turned, make([]int, len(turned)))
		if len(told) != 0 {
			t.Fatal("told ahead of its end:", told)
		}
		waits(t, r, 4, impl.RtuNew(2, 4), []impl.Got{{Code: impl.FrameSum}})
		hears(t, r, 9, 4, impl.Rtu{Buf: []byte{9}, Last: 4, Half: 2, Whole: 4}, []impl.Got{{Code: impl.FrameSum}})
	}
}

// What was heard without silences, by how many bytes it is; right sums do not help what is too short or too long.
func TestTooShortAndTooLongAreTold(t *testing.T) {
	for n := 1; n <= 300; n++ {
		heard := sampleBytes(101, n)
		if n > 2 {
			heard = withCrc(heard[:n-2])
		}
		code := impl.FrameGood
		switch {
		case n < 4:
			code = impl.FrameShort
		case n > 256:
			code = impl.FrameLong
		}
		r, told := hearAll(impl.RtuNew(2, 4), heard, slices.Repeat([]int{50}, n))
		if len(told) != 0 || !bytes.Equal(r.Buf, heard[:min(n, 257)]) || !impl.RtuOk(r) {
			t.Fatalf("of %d bytes: %v, %v", n, r, told)
		}
		want := []impl.Got{{Code: code}}
		if code == impl.FrameGood {
			want = []impl.Got{{Unit: int(heard[0]), Pdu: heard[1 : n-2]}}
		}
		waits(t, r, 53, r, nil)
		waits(t, r, 54, impl.Rtu{Last: 50, Half: 2, Whole: 4}, want)
	}
}

// Bytes that are left out still hold off the end, and a gap ahead of one of them counts.
func TestBytesThatAreLeftOut(t *testing.T) {
	full := impl.Rtu{Buf: sampleBytes(102, 257), Last: 50, Half: 2, Whole: 4}
	r, told := impl.RtuHear(full, 9, 51)
	if want := (impl.Rtu{Buf: full.Buf, Last: 51, Half: 2, Whole: 4}); len(told) != 0 || !equalRtu(r, want) {
		t.Errorf("one more byte: %v, %v", r, told)
	}
	waits(t, r, 54, r, nil)
	waits(t, r, 55, impl.Rtu{Last: 51, Half: 2, Whole: 4}, []impl.Got{{Code: impl.FrameLong}})
	r, told = impl.RtuHear(full, 9, 52)
	if want := (impl.Rtu{Buf: full.Buf, Last: 52, Bad: true, Half: 2, Whole: 4}); len(told) != 0 || !equalRtu(r, want) {
		t.Errorf("one more byte behind a gap: %v, %v", r, told)
	}
	waits(t, r, 56, impl.Rtu{Last: 52, Half: 2, Whole: 4}, []impl.Got{{Code: impl.FrameGap}})
	hears(t, full, 9, 54, impl.Rtu{Buf: []byte{9}, Last: 54, Half: 2, Whole: 4}, []impl.Got{{Code: impl.FrameLong}})
}

// A gap is told first, whatever else is wrong, and it does not cling to the next frame.
func TestAGapIsToldFirst(t *testing.T) {
	gap := []impl.Got{{Code: impl.FrameGap}}
	for _, n := range []int{2, 3, 4, 5, 100, 256, 257, 300} {
		for _, heard := range [][]byte{sampleBytes(103, n), withCrc(sampleBytes(103, n-2))} {
			for _, at := range []int{1, n / 2, n - 1} {
				r, told := hearAll(impl.RtuNew(2, 4), heard, ticksWith(n, at, 3, 20))
				if len(told) != 0 || !r.Bad {
					t.Fatalf("a gap at %d of %d: %v, %v", at, n, r, told)
				}
				waits(t, r, 27, impl.Rtu{Last: 23, Half: 2, Whole: 4}, gap)
				hears(t, r, 8, 27, impl.Rtu{Buf: []byte{8}, Last: 27, Half: 2, Whole: 4}, gap)
			}
		}
	}
	bad, _ := hearAll(impl.RtuNew(2, 4), []byte{1, 2, 3}, []int{0, 2, 2})
	pdu := []byte{3, 4}
	frame := frameOf(12, pdu)
	r, told := hearAll(bad, frame, slices.Repeat([]int{6}, len(frame)))
	if !slices.EqualFunc(told, gap, equalGot) {
		t.Errorf("the frame ahead is told as %v", told)
	}
	waits(t, r, 10, impl.Rtu{Last: 6, Half: 2, Whole: 4}, []impl.Got{{Unit: 12, Pdu: pdu}})
}

func TestNothingHeardIsNeverTold(t *testing.T) {
	for _, s := range [][2]int{{1, 1}, {2, 4}, {1000, 1000}} {
		for _, last := range []int{0, 5, lastTick} {
			for _, none := range [][]byte{nil, {}, make([]byte, 0, 9)} {
				r := impl.Rtu{Buf: none, Last: last, Half: s[0], Whole: s[1]}
				for _, tick := range []int{0, 1, 4, 5, 999, 1000, 1001, 100000, 1 << 31, lastTick - 1, lastTick} {
					waits(t, r, tick, r, nil)
					// the first byte of all lies behind no silence
					hears(t, r, 7, tick, impl.Rtu{Buf: []byte{7}, Last: tick, Half: s[0], Whole: s[1]}, nil)
				}
			}
		}
	}
	r, _ := hearAll(impl.RtuNew(2, 4), []byte{1}, []int{0})
	r, told := impl.RtuWait(r, 4)
	if len(told) != 1 {
		t.Fatal("one byte is told as", told)
	}
	for tick := range 50 {
		waits(t, r, tick, r, nil)
	}
}

// A tick behind which Last lies is a silence of nearly a whole round.
func TestTicksThatGoBack(t *testing.T) {
	r := impl.Rtu{Buf: frameOf(1, []byte{2}), Last: 100, Half: 2, Whole: 4}
	waits(t, r, 99, impl.Rtu{Last: 100, Half: 2, Whole: 4}, []impl.Got{{Unit: 1, Pdu: []byte{2}}})
	waits(t, r, 0, impl.Rtu{Last: 100, Half: 2, Whole: 4}, []impl.Got{{Unit: 1, Pdu: []byte{2}}})
	r.Last = lastTick
	waits(t, r, 2, r, nil)
	waits(t, r, 3, impl.Rtu{Last: lastTick, Half: 2, Whole: 4}, []impl.Got{{Unit: 1, Pdu: []byte{2}}})
	hears(t, r, 9, 0, impl.Rtu{Buf: append(frameOf(1, []byte{2}), 9), Half: 2, Whole: 4}, nil)
	hears(t, r, 9, 1, impl.Rtu{Buf: append(frameOf(1, []byte{2}), 9), Last: 1, Bad: true, Half: 2, Whole: 4}, nil)
}

// Mixed bytes, frames and silences, held against the words of the chapter at each step.
func TestRtuByManySteps(t *testing.T) {
	for seed := range uint32(200) {
		half := 1 + int(seed)%4
		r := impl.RtuNew(half, half+int(seed)/4%4)
		tick := later(lastTick-300, int(seed)*7)
		dice := sampleBytes(seed, 600)
		bytesLeft := frameOf(int(seed), sampleBytes(seed, 1+int(seed)%9))
		for i, d := range dice {
			if len(bytesLeft) == 0 || d < 8 {
				bytesLeft = frameOf(i%256, sampleBytes(seed+uint32(i), 1+int(d)%9))
				tick = later(tick, r.Whole)
			}
			if d > 230 {
				tick = later(tick, int(d)%10)
			}
			if d%5 == 0 {
				want, told := slowWait(r, tick)
				waits(t, r, tick, want, told)
				r = want
			}
			want, told := slowHear(r, bytesLeft[0], tick)
			hears(t, r, bytesLeft[0], tick, want, told)
			r, bytesLeft = want, bytesLeft[1:]
		}
		if t.Failed() {
			t.Fatal("seed", seed)
		}
	}
}

func TestRtuFramesAreNewMemory(t *testing.T) {
	for _, n := range []int{0, 1, 5, 253, 254} {
		for _, unit := range []int{-1, 0, 9, 256} {
			pdu, unchanged := roomy(t, sampleBytes(104, n))
			b, again := impl.PutRtu(unit, pdu), impl.PutRtu(unit, pdu)
			unchanged("PutRtu")
			was := bytes.Clone(again)
			spoil(b)
			unchanged("what PutRtu answered")
			spoil(pdu)
			if !bytes.Equal(again, was) {
				t.Errorf("PutRtu(%d, %d bytes) shares memory", unit, n)
			}
		}
	}
	for _, plain := range [][]byte{nil, {1, 2, 3}, frameOf(9, []byte{1}), frameOf(9, sampleBytes(105, 253)), make([]byte, 9), make([]byte, 257)} {
		b, unchanged := roomy(t, plain)
		_, first, _ := impl.GetRtu(b)
		_, second, _ := impl.GetRtu(b)
		unchanged("GetRtu")
		was := bytes.Clone(second)
		spoil(first)
		unchanged("what GetRtu answered")
		spoil(b)
		if !bytes.Equal(second, was) {
			t.Errorf("GetRtu of %d bytes shares memory", len(plain))
		}
	}
}

// What lies behind a list's length is not read: the same frame with other room behind it is told alike.
func TestRtuReadsNothingBehind(t *testing.T) {
	frame := frameOf(9, []byte{1, 2, 3})
	for cut := range len(frame) {
		short := bytes.Clone(frame[:cut])
		u, p, code := impl.GetRtu(frame[:cut])
		if v, q, c := impl.GetRtu(short); u != v || !bytes.Equal(p, q) || code != c {
			t.Errorf("GetRtu of the first %d bytes hangs on what lies behind", cut)
		}
		r := impl.Rtu{Buf: frame[:cut], Half: 2, Whole: 4}
		want, told := slowWait(r, 4)
		waits(t, r, 4, want, told)
		want, told = slowHear(r, 77, 1)
		hears(t, r, 77, 1, want, told)
	}
}

var rtuMemory = memoryOf[impl.Rtu, impl.Got]{
	buf:       func(r *impl.Rtu) *[]byte { return &r.Buf },
	pdu:       gotPdu,
	equal:     equalRtu,
	equalTold: equalGot,
}

func TestRtuAnswersNewMemory(t *testing.T) {
	for _, r := range append(rightRtus(), wrongRtus()...) {
		for _, tick := range []int{r.Last, later(r.Last, 1), later(r.Last, 2), later(r.Last, 3), later(r.Last, 1000), -1, 0, lastTick, lastTick + 1} {
			answersNewMemory(t, "RtuWait", r, rtuMemory, func(r impl.Rtu) (impl.Rtu, []impl.Got) { return impl.RtuWait(r, tick) })
			answersNewMemory(t, "RtuHear", r, rtuMemory, func(r impl.Rtu) (impl.Rtu, []impl.Got) { return impl.RtuHear(r, 90, tick) })
		}
		buf, unchanged := roomy(t, r.Buf)
		r.Buf = buf
		impl.RtuOk(r)
		unchanged("RtuOk")
	}
}
