package tests

import (
	"bytes"
	"math"
	"slices"
	"testing"

	"loop.example/g00129/impl"
)

// sampleBits gives n bits that look mixed and are the same in every run.
func sampleBits(seed uint32, n int) []bool {
	bits := make([]bool, n)
	for i, x := range sampleBytes(seed, n) {
		bits[i] = x >= 128
	}
	return bits
}

// slowPack is the bytes of the bits, by adding up, as chapter 2 words it.
func slowPack(bits []bool) []byte {
	var b []byte
	for i, bit := range bits {
		if i%8 == 0 {
			b = append(b, 0)
		}
		if bit {
			b[len(b)-1] += []byte{1, 2, 4, 8, 16, 32, 64, 128}[i%8]
		}
	}
	return b
}

// allBits gives n bits that are true.
func allBits(n int) []bool {
	return slices.Repeat([]bool{true}, n)
}

func TestPackBitsKnown(t *testing.T) {
	known := []struct {
		bits []bool
		want []byte
	}{
		{nil, nil},
		{[]bool{}, nil},
		{[]bool{false}, []byte{0}},
		{[]bool{true}, []byte{1}},
		{[]bool{false, true}, []byte{2}},
		{[]bool{false, false, false, false, false, false, false, true}, []byte{128}},
		{[]bool{true, false, true, false, false, false, false, true, true}, []byte{0x85, 1}},
		{allBits(8), []byte{255}},
		{allBits(9), []byte{255, 1}},
		{allBits(15), []byte{255, 127}},
		{allBits(16), []byte{255, 255}},
		{make([]bool, 17), []byte{0, 0, 0}},
	}
	for _, k := range known {
		if got := impl.PackBits(k.bits); !bytes.Equal(got, k.want) {
			t.Errorf("PackBits(%v) is %v, not %v", k.bits, got, k.want)
		}
	}
}

func TestBitsComeBack(t *testing.T) {
	for n := range 70 {
		for _, bits := range [][]bool{make([]bool, n), allBits(n), sampleBits(1, n), sampleBits(2, n), sampleBits(3, n)} {
			b := impl.PackBits(bits)
			if want := slowPack(bits); !bytes.Equal(b, want) {
				t.Errorf("PackBits(%v) is %v, not %v", bits, b, want)
			}
			if back, ok := impl.UnpackBits(b, n); !ok || !slices.Equal(back, bits) {
				t.Errorf("UnpackBits(%v, %d) is %v, %v, not %v", b, n, back, ok, bits)
			}
		}
	}
	bits := sampleBits(4, 2000)
	if back, ok := impl.UnpackBits(impl.PackBits(bits), 2000); !ok || !slices.Equal(back, bits) {
		t.Error("2000 bits do not come back")
	}
}

func TestBytesComeBack(t *testing.T) {
	for n := range 1 << 11 {
		for _, count := range []int{9, 10, 11} {
			b := []byte{byte(n), byte(n >> 8)}
			bits, ok := impl.UnpackBits(b, count)
			if right := n < 1<<count; ok != right {
				t.Fatalf("UnpackBits(%v, %d) says %v", b, count, ok)
			}
			if ok && !bytes.Equal(impl.PackBits(bits), b) {
				t.Fatalf("%v does not come back of its %d bits", b, count)
			}
		}
	}
}

// refusesBits wants nothing and false.
func refusesBits(t *testing.T, b []byte, n int) {
	t.Helper()
	if bits, ok := impl.UnpackBits(b, n); ok || len(bits) != 0 {
		t.Errorf("UnpackBits(%v, %d) is %v, %v", b, n, bits, ok)
	}
}

func TestUnpackBitsLeftOver(t *testing.T) {
	for n := 1; n <= 33; n++ {
		b := impl.PackBits(allBits(n))
		for over := n; over < 8*len(b); over++ {
			wrong := bytes.Clone(b)
			wrong[over/8] |= 1 << (over % 8)
			refusesBits(t, wrong, n)
			lone := make([]byte, len(b))
			lone[over/8] = 1 << (over % 8)
			refusesBits(t, lone, n)
		}
	}
}

func TestUnpackBitsWrongCount(t *testing.T) {
	for n := range 34 {
		right := make([]byte, (n+7)/8)
		if bits, ok := impl.UnpackBits(right, n); !ok || len(bits) != n {
			t.Errorf("UnpackBits(%v, %d) is %v, %v", right, n, bits, ok)
		}
		refusesBits(t, append(right, 0), n)
		if n > 0 {
			refusesBits(t, right[1:], n)
		}
	}
	for _, b := range [][]byte{nil, {}, {0}, {1}, {0, 0}, make([]byte, 300)} {
		for _, n := range []int{-1, -7, -8, -9, -16, math.MinInt, math.MinInt + 1, math.MaxInt, math.MaxInt - 6, math.MaxInt - 7, math.MaxInt - 8, 1 << 40} {
			refusesBits(t, b, n)
		}
	}
	refusesBits(t, []byte{0}, 0)
	refusesBits(t, nil, 1)
	for _, none := range [][]byte{nil, {}} {
		if bits, ok := impl.UnpackBits(none, 0); !ok || len(bits) != 0 {
			t.Error("no bits of no bytes:", bits, ok)
		}
	}
}

func TestBitsLeaveTheirArguments(t *testing.T) {
	for n := range 34 {
		whole := append(sampleBits(5, n), allBits(8)...)
		before := slices.Clone(whole)
		packed := impl.PackBits(whole[:n])
		if !slices.Equal(whole, before) {
			t.Errorf("PackBits wrote into its %d bits, or behind them", n)
		}
		b, unchanged := roomy(t, packed)
		bits, _ := impl.UnpackBits(b, n)
		unchanged("UnpackBits")
		impl.UnpackBits(b, n+9)
		unchanged("UnpackBits, refused")
		for i := range packed {
			packed[i] ^= 255
		}
		for i := range bits {
			bits[i] = !bits[i]
		}
		unchanged("what UnpackBits answered")
		if again := impl.PackBits(whole[:n]); !bytes.Equal(again, b) {
			t.Errorf("PackBits of %d bits is %v at first and %v then", n, b, again)
		}
	}
}

// putInPieces puts b into r, piece bytes at a time.
func putInPieces(r impl.Ring, b []byte, piece int) (impl.Ring, int) {
	lost := 0
	for part := range slices.Chunk(b, piece) {
		var more int
		r, more = impl.RingPut(r, part)
		lost += more
	}
	return r, lost
}

// takeInPieces empties r, piece bytes at a time.
func takeInPieces(r impl.Ring, piece int) []byte {
	var all []byte
	for len(r.B) > 0 {
		var part []byte
		part, r = impl.RingTake(r, piece)
		if len(part) == 0 {
			return nil
		}
		all = append(all, part...)
	}
	return all
}

func TestRingKeepsTheOrder(t *testing.T) {
	pieces := []int{1, 2, 3, 7, 64, 299, 300, 1000}
	for _, n := range []int{0, 1, 2, 3, 10, 299, 300} {
		b := sampleBytes(uint32(n), n)
		for _, in := range pieces {
			r, lost := putInPieces(impl.Ring{}, b, in)
			if lost != 0 || !bytes.Equal(r.B, b) {
				t.Errorf("%d bytes put in pieces of %d: %v, %d lost", n, in, r.B, lost)
			}
			for _, out := range pieces {
				if got := takeInPieces(r, out); !bytes.Equal(got, b) {
					t.Errorf("%d bytes taken in pieces of %d: %v", n, out, got)
				}
			}
		}
	}
}

func TestRingPutAndTakeByTurns(t *testing.T) {
	all := sampleBytes(9, 2000)
	var r impl.Ring
	var got []byte
	for at := 0; at < len(all); at += 20 {
		var lost int
		var part []byte
		if r, lost = impl.RingPut(r, all[at:at+20]); lost != 0 {
			t.Fatal("lost at", at, lost)
		}
		part, r = impl.RingTake(r, 18)
		got = append(got, part...)
	}
	if !bytes.Equal(append(got, r.B...), all) {
		t.Error("by turns, the order is lost")
	}
}

func TestRingFull(t *testing.T) {
	all := sampleBytes(10, 2*impl.MaxRing)
	for _, held := range []int{0, 1, 150, 298, 299, 300} {
		room := impl.MaxRing - held
		for _, n := range []int{0, 1, 2, room - 1, room, room + 1, room + 2, impl.MaxRing} {
			if n < 0 {
				continue
			}
			want, wantLost := all[:min(held+n, impl.MaxRing)], max(0, n-room)
			r, lost := impl.RingPut(impl.Ring{B: all[:held]}, all[held:held+n])
			if lost != wantLost || !bytes.Equal(r.B, want) {
				t.Errorf("%d bytes put to %d: %d are there, %d lost, not %d, %d", n, held, len(r.B), lost, len(want), wantLost)
			}
			if !impl.RingOk(r) {
				t.Errorf("%d bytes put to %d are not RingOk", n, held)
			}
		}
	}
	if r, lost := putInPieces(impl.Ring{}, all, 7); lost != impl.MaxRing || !bytes.Equal(r.B, all[:impl.MaxRing]) {
		t.Error("in pieces beyond the end:", len(r.B), lost)
	}
}

func TestRingTake(t *testing.T) {
	for _, held := range []int{0, 1, 2, 299, 300} {
		b := sampleBytes(11, held)
		for _, n := range []int{0, 1, 2, held - 1, held, held + 1, 301, -1, -2, -300, math.MinInt, math.MinInt + 1, math.MaxInt, math.MaxInt - 1} {
			want := min(max(n, 0), held)
			part, rest := impl.RingTake(impl.Ring{B: b}, n)
			if !bytes.Equal(part, b[:want]) || !bytes.Equal(rest.B, b[want:]) {
				t.Errorf("RingTake of %d bytes, %d: %d and %d, not %d", held, n, len(part), len(rest.B), want)
			}
		}
	}
}

func TestRingOk(t *testing.T) {
	if impl.MaxRing != 300 {
		t.Error("MaxRing is", impl.MaxRing)
	}
	for n, want := range map[int]bool{0: true, 1: true, 299: true, 300: true, 301: false, 302: false, 600: false} {
		if got := impl.RingOk(impl.Ring{B: make([]byte, n)}); got != want {
			t.Errorf("RingOk of %d bytes is %v", n, got)
		}
	}
	if !impl.RingOk(impl.Ring{B: make([]byte, 300, 900)}) || !impl.RingOk(impl.Ring{}) {
		t.Error("RingOk goes by the length alone")
	}
}

func TestRingTooLong(t *testing.T) {
	for _, held := range []int{301, 302, 600} {
		b := sampleBytes(12, held)
		for _, n := range []int{0, 1, 5, 300} {
			if r, lost := impl.RingPut(impl.Ring{B: b}, sampleBytes(13, n)); lost != n || !bytes.Equal(r.B, b) {
				t.Errorf("%d bytes put to %d: %d, %d lost", n, held, len(r.B), lost)
			}
		}
		for _, n := range []int{math.MinInt, -1, 0, 1, 300, 301, 600, math.MaxInt} {
			if part, r := impl.RingTake(impl.Ring{B: b}, n); len(part) != 0 || !bytes.Equal(r.B, b) {
				t.Errorf("%d bytes taken of %d: %d and %d", n, held, len(part), len(r.B))
			}
		}
	}
}

// spoil writes over all of b and all the room behind it.
func spoil(b []byte) {
	b = b[:cap(b)]
	for i := range b {
		b[i] ^= 255
	}
}

func TestRingAnswersAreNewMemory(t *testing.T) {
	for _, held := range []int{0, 1, 5, 299, 300, 301} {
		r, ringUnchanged := roomy(t, sampleBytes(14, held))
		for _, n := range []int{0, 1, 5, 400} {
			b, bytesUnchanged := roomy(t, sampleBytes(15, n))
			put, _ := impl.RingPut(impl.Ring{B: r}, b)
			ringUnchanged("RingPut's ring")
			bytesUnchanged("RingPut's bytes")
			spoil(put.B)
			ringUnchanged("RingPut's answer shares the ring")
			bytesUnchanged("RingPut's answer shares the bytes")
		}
		for _, n := range []int{-1, 0, 1, 5, 299, 300, 301, 400} {
			part, rest := impl.RingTake(impl.Ring{B: r}, n)
			ringUnchanged("RingTake")
			restBefore := bytes.Clone(rest.B)
			spoil(part)
			ringUnchanged("RingTake's bytes share the ring")
			if !bytes.Equal(rest.B, restBefore) {
				t.Errorf("what is taken of %d by %d shares memory with what is left", held, n)
			}
			partBefore := bytes.Clone(part)
			spoil(rest.B)
			ringUnchanged("RingTake's rest shares the ring")
			if !bytes.Equal(part, partBefore) {
				t.Errorf("what is left of %d by %d shares memory with what is taken", held, n)
			}
		}
	}
}
