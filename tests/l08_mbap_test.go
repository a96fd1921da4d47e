package tests

import (
	"bytes"
	"fmt"
	"math"
	"slices"
	"testing"

	"loop.example/g00129/impl"
)

// The most bytes of a stream that may wait, as chapter 8 has it.
const mostWaiting = 600

// streamFrame is the frame of a box, as chapter 8 words it.
func streamFrame(box impl.Box) []byte {
	follow := len(box.Pdu) + 1
	head := []byte{byte(box.Number / 256), byte(box.Number % 256), 0, 0, byte(follow / 256), byte(follow % 256), byte(box.Unit)}
	return append(head, box.Pdu...)
}

// headOf is a head that tells this many bytes to follow, and that many behind it.
func headOf(follow int, there int) []byte {
	head := []byte{1, 2, 0, 0, byte(follow / 256), byte(follow % 256)}
	return append(head, sampleBytes(130, there)...)
}

func equalBox(a impl.Box, b impl.Box) bool {
	return a.Number == b.Number && a.Unit == b.Unit && bytes.Equal(a.Pdu, b.Pdu)
}

func equalBoxes(a []impl.Box, b []impl.Box) bool { return slices.EqualFunc(a, b, equalBox) }

func equalStream(a impl.Stream, b impl.Stream) bool {
	return bytes.Equal(a.Buf, b.Buf) && a.Shut == b.Shut
}

// slowNext is NextMbap as chapter 8 words it.
func slowNext(b []byte) (impl.Box, int, int) {
	for i, x := range b {
		if (i == 2 || i == 3) && x != 0 {
			return impl.Box{}, 0, impl.StreamBad
		}
	}
	if len(b) < 6 {
		return impl.Box{}, 0, impl.StreamWait
	}
	follow := int(b[4])*256 + int(b[5])
	switch {
	case follow < 2 || follow > 254:
		return impl.Box{}, 0, impl.StreamBad
	case len(b)-6 < follow:
		return impl.Box{}, 0, impl.StreamWait
	}
	return impl.Box{Number: int(b[0])*256 + int(b[1]), Unit: int(b[6]), Pdu: bytes.Clone(b[7 : 6+follow])}, 6 + follow, impl.StreamGood
}

// slowStream is StreamHear as chapter 8 words it.
func slowStream(s impl.Stream, b []byte) (impl.Stream, []impl.Box) {
	if s.Shut || !impl.StreamOk(s) {
		return s, nil
	}
	all, told := slices.Concat(s.Buf, b), []impl.Box(nil)
	for {
		box, size, code := slowNext(all)
		if code == impl.StreamBad || code == impl.StreamWait && len(all) > mostWaiting {
			return impl.Stream{Shut: true}, told
		}
		if code == impl.StreamWait {
			return impl.Stream{Buf: all}, told
		}
		all, told = all[size:], append(told, box)
	}
}

// nextIs wants this of NextMbap.
func nextIs(t *testing.T, b []byte, want impl.Box, size int, code int) {
	t.Helper()
	if number, unit, pdu, n, c := impl.NextMbap(b); !equalBox(impl.Box{Number: number, Unit: unit, Pdu: pdu}, want) || n != size || c != code {
		t.Errorf("NextMbap of %d bytes, %x, is %d, %d, %x, %d, %d, not %v, %d, %d", len(b), b, number, unit, pdu, n, c, want, size, code)
	}
}

// nextIsNone wants zeros, nothing and this code of NextMbap.
func nextIsNone(t *testing.T, b []byte, code int) {
	t.Helper()
	nextIs(t, b, impl.Box{}, 0, code)
}

// streams wants that s, of these bytes, is this then and tells these.
func streams(t *testing.T, s impl.Stream, b []byte, want impl.Stream, told ...impl.Box) {
	t.Helper()
	if is, got := impl.StreamHear(s, b); !equalStream(is, want) || !equalBoxes(got, told) {
		t.Errorf("StreamHear of %v and %d bytes, %x, is %v, %v, not %v, %v", s, len(b), b, is, got, want, told)
	}
}

// inPieces hears these pieces one behind the other, and gathers what is told.
func inPieces(t *testing.T, pieces ...[]byte) (impl.Stream, []impl.Box) {
	t.Helper()
	s, all := impl.Stream{}, []impl.Box(nil)
	for _, piece := range pieces {
		var told []impl.Box
		s, told = impl.StreamHear(s, piece)
		if !impl.StreamOk(s) {
			t.Fatalf("behind %x: %v is not StreamOk", piece, s)
		}
		all = append(all, told...)
	}
	return s, all
}

// tellsInPieces wants the same Stream and the same boxes of b, whole, byte by byte and in each two pieces.
func tellsInPieces(t *testing.T, b []byte, want impl.Stream, told ...impl.Box) {
	t.Helper()
	check := func(how string, pieces ...[]byte) {
		t.Helper()
		if s, got := inPieces(t, pieces...); !equalStream(s, want) || !equalBoxes(got, told) {
			t.Fatalf("%d bytes, %x, %s, are %v, %v, not %v, %v", len(b), b, how, s, got, want, told)
		}
	}
	check("whole", b)
	for cut := range len(b) + 1 {
		check(fmt.Sprint("cut at ", cut), b[:cut], b[cut:])
	}
	check("byte by byte", slices.Collect(slices.Chunk(b, 1))...)
	check("with nothing between", append(slices.Insert(slices.Collect(slices.Chunk(b, 5)), 0, nil, []byte{}), nil)...)
}

func sampleBox(seed uint32, n int) impl.Box {
	return impl.Box{Number: int(seed*40503) % 65536, Unit: int(seed*31) % 256, Pdu: sampleBytes(seed, n)}
}

// sampleBoxes is boxes of these sizes, and their frames one behind the other.
func sampleBoxes(sizes ...int) ([]impl.Box, []byte) {
	var boxes []impl.Box
	var frames []byte
	for i, n := range sizes {
		box := sampleBox(uint32(i)+131, n)
		boxes, frames = append(boxes, box), append(frames, streamFrame(box)...)
	}
	return boxes, frames
}

func TestStreamNames(t *testing.T) {
	if impl.StreamWait != 0 || impl.StreamGood != 1 || impl.StreamBad != 2 {
		t.Error("the codes of a stream are not 0, 1 and 2")
	}
}

func TestPutMbapKnown(t *testing.T) {
	known := []struct {
		box  impl.Box
		want []byte
	}{
		{impl.Box{Number: 258, Unit: 17, Pdu: []byte{3, 0, 107, 0, 3}}, []byte{1, 2, 0, 0, 0, 6, 17, 3, 0, 107, 0, 3}},
		{impl.Box{Pdu: []byte{0}}, []byte{0, 0, 0, 0, 0, 2, 0, 0}},
		{impl.Box{Number: 65535, Unit: 255, Pdu: []byte{255}}, []byte{255, 255, 0, 0, 0, 2, 255, 255}},
		{impl.Box{Number: 255, Unit: 1, Pdu: []byte{1, 2}}, []byte{0, 255, 0, 0, 0, 3, 1, 1, 2}},
		{impl.Box{Number: 256, Unit: 1, Pdu: []byte{1, 2}}, []byte{1, 0, 0, 0, 0, 3, 1, 1, 2}},
	}
	for _, k := range known {
		if b := impl.PutMbap(k.box.Number, k.box.Unit, k.box.Pdu); !bytes.Equal(b, k.want) {
			t.Errorf("PutMbap of %v is %x, not %x", k.box, b, k.want)
		}
		nextIs(t, k.want, k.box, len(k.want), impl.StreamGood)
	}
}

// comesBack wants that a box is put as the chapter words it, and told again, whatever stands behind it.
func comesBack(t *testing.T, box impl.Box, behind ...[]byte) {
	t.Helper()
	b := impl.PutMbap(box.Number, box.Unit, box.Pdu)
	if !bytes.Equal(b, streamFrame(box)) {
		t.Fatalf("PutMbap of %v is %x", box, b)
	}
	nextIs(t, b, box, len(b), impl.StreamGood)
	for _, more := range behind {
		nextIs(t, slices.Concat(b, more), box, len(b), impl.StreamGood)
	}
}

func TestStreamFramesComeBack(t *testing.T) {
	behind := [][]byte{{0}, {255}, {0, 0, 1}, {1, 2, 3, 4, 5, 6, 7}, make([]byte, 700), sampleBytes(132, 700), streamFrame(sampleBox(133, 9))}
	for _, number := range []int{0, 1, 255, 256, 32767, 32768, 65534, 65535} {
		for _, unit := range []int{0, 1, 127, 128, 255} {
			for _, n := range []int{1, 2, 5, 252, 253} {
				for _, pdu := range [][]byte{make([]byte, n), sampleBytes(uint32(n), n), bytes.Repeat([]byte{255}, n)} {
					comesBack(t, impl.Box{Number: number, Unit: unit, Pdu: pdu}, behind...)
				}
			}
		}
	}
	for n := 1; n <= 253; n++ {
		comesBack(t, sampleBox(uint32(n), n), behind[1])
	}
	for number := range 65536 {
		comesBack(t, impl.Box{Number: number, Unit: number % 256, Pdu: []byte{byte(number)}})
	}
}

func TestPutMbapRefuses(t *testing.T) {
	noWords := []int{-1, -2, -65535, -65536, 65536, 65537, 131071, 131072, 1 << 32, math.MaxInt, math.MaxInt - 1, math.MinInt, math.MinInt + 1}
	noBytes := append([]int{-255, -256, 256, 257, 511, 512, 65535}, noWords...)
	for _, n := range []int{0, 1, 253, 254} {
		for _, number := range noWords {
			for _, unit := range []int{-1, 0, 255, 256} {
				if b := impl.PutMbap(number, unit, make([]byte, n)); len(b) != 0 {
					t.Errorf("PutMbap(%d, %d, %d bytes) is %x", number, unit, n, b)
				}
			}
		}
		for _, unit := range noBytes {
			for _, number := range []int{-1, 0, 65535, 65536} {
				if b := impl.PutMbap(number, unit, make([]byte, n)); len(b) != 0 {
					t.Errorf("PutMbap(%d, %d, %d bytes) is %x", number, unit, n, b)
				}
			}
		}
	}
	for _, number := range []int{0, 1, 65535} {
		for _, unit := range []int{0, 1, 255} {
			for _, pdu := range [][]byte{nil, {}, make([]byte, 0, 9), make([]byte, 254), make([]byte, 255), make([]byte, 256), make([]byte, 65536)} {
				if b := impl.PutMbap(number, unit, pdu); len(b) != 0 {
					t.Errorf("PutMbap(%d, %d, %d bytes) is %x", number, unit, len(pdu), b)
				}
			}
			for _, n := range []int{1, 253} {
				if b := impl.PutMbap(number, unit, make([]byte, n)); len(b) != n+7 {
					t.Errorf("PutMbap(%d, %d, %d bytes) has %d bytes", number, unit, n, len(b))
				}
			}
		}
	}
}

func TestNextMbapOfACutFrame(t *testing.T) {
	nextIsNone(t, nil, impl.StreamWait)
	nextIsNone(t, []byte{}, impl.StreamWait)
	for _, n := range []int{1, 2, 5, 252, 253} {
		for _, box := range []impl.Box{sampleBox(134, n), {Pdu: make([]byte, n)}, {Number: 65535, Unit: 255, Pdu: bytes.Repeat([]byte{255}, n)}} {
			b := streamFrame(box)
			for cut := range b {
				nextIsNone(t, bytes.Clone(b[:cut]), impl.StreamWait)
				// what lies behind the length is not read, though it would make the frame whole
				nextIsNone(t, b[:cut], impl.StreamWait)
			}
			nextIs(t, b, box, len(b), impl.StreamGood)
		}
	}
}

// Each byte of the second word is looked at as soon as it is there, whatever comes behind.
func TestNextMbapOfAWrongSecondWord(t *testing.T) {
	whole := streamFrame(sampleBox(135, 4))
	for at := range whole {
		for x := 1; x < 256; x++ {
			b := bytes.Clone(whole)
			b[at] ^= byte(x)
			for cut := range len(b) + 1 {
				box, size, code := slowNext(b[:cut])
				if (at == 2 || at == 3) && code != impl.StreamBad && cut > at || cut <= at && code != impl.StreamWait {
					t.Fatalf("slowNext of %x is %d", b[:cut], code)
				}
				nextIs(t, b[:cut], box, size, code)
			}
		}
	}
	for _, text := range [][]byte{{1, 2, 1}, {1, 2, 255}, {1, 2, 0, 1}, {1, 2, 0, 255}, {0, 0, 128}, {1, 2, 1, 0}, {1, 2, 1, 0, 0, 6, 1, 3}, {1, 2, 0, 1, 0, 6, 1, 3}, {1, 2, 1, 0, 0, 0}} {
		nextIsNone(t, text, impl.StreamBad)
	}
	for _, text := range [][]byte{{1}, {255, 255}, {1, 2, 0}, {1, 2, 0, 0}} {
		nextIsNone(t, text, impl.StreamWait)
	}
}

// The third word is looked at once it is whole, and not before.
func TestNextMbapOfEachThirdWord(t *testing.T) {
	for follow := range 65536 {
		right := 2 <= follow && follow <= 254
		nextIsNone(t, headOf(follow, 0)[:5], impl.StreamWait)
		if !right {
			nextIsNone(t, headOf(follow, 0), impl.StreamBad)
			nextIsNone(t, headOf(follow, 3), impl.StreamBad)
			continue
		}
		nextIsNone(t, headOf(follow, 0), impl.StreamWait)
		nextIsNone(t, headOf(follow, follow-1), impl.StreamWait)
		pdu := sampleBytes(130, follow)
		want := impl.Box{Number: 258, Unit: int(pdu[0]), Pdu: pdu[1:]}
		nextIs(t, headOf(follow, follow), want, 6+follow, impl.StreamGood)
		nextIs(t, headOf(follow, follow+1), want, 6+follow, impl.StreamGood)
	}
	for _, follow := range []int{0, 1, 255, 256, 257, 511, 512, 65535} {
		nextIsNone(t, headOf(follow, min(follow, 1000)), impl.StreamBad)
	}
}

// oddStreams is streams that nothing has heard: their Buf begins with no head, and is no whole frame either.
func oddStreams() []impl.Stream {
	return []impl.Stream{{Buf: []byte{1, 2, 3}}, {Buf: []byte{1, 2, 0, 9, 0, 6}}, {Buf: headOf(0, 0)}, {Buf: headOf(255, 255)}, {Buf: make([]byte, 300)}, {Buf: make([]byte, mostWaiting)}, {Buf: bytes.Repeat([]byte{255}, mostWaiting)}}
}

func rightStreams() []impl.Stream {
	list := []impl.Stream{{}, {Buf: []byte{}}, {Buf: make([]byte, 0, 9)}, {Shut: true}, {Buf: make([]byte, 0, 9), Shut: true}}
	for _, n := range []int{1, 5, 253} {
		b := streamFrame(sampleBox(136, n))
		for _, cut := range []int{1, 2, 3, 4, 5, 6, 7, len(b) - 1} {
			list = append(list, impl.Stream{Buf: b[:cut:cut]})
		}
	}
	return append(list, oddStreams()...)
}

func wrongStreams() []impl.Stream {
	list := []impl.Stream{
		{Buf: make([]byte, mostWaiting+1)}, {Buf: bytes.Repeat([]byte{255}, mostWaiting+1)}, {Buf: make([]byte, 5000)},
		{Buf: []byte{1}, Shut: true}, {Buf: []byte{1, 2, 3}, Shut: true}, {Buf: make([]byte, mostWaiting), Shut: true}, {Buf: make([]byte, mostWaiting+1), Shut: true},
	}
	for _, n := range []int{1, 5, 253} {
		b := streamFrame(sampleBox(137, n))
		list = append(list, impl.Stream{Buf: b}, impl.Stream{Buf: b, Shut: true}, impl.Stream{Buf: append(bytes.Clone(b), 1)}, impl.Stream{Buf: append(bytes.Clone(b), 1, 2, 3)})
	}
	full := append(streamFrame(sampleBox(138, 253)), make([]byte, mostWaiting)...)
	return append(list, impl.Stream{Buf: full[:mostWaiting]}, impl.Stream{Buf: full[:mostWaiting+1]})
}

func TestStreamOk(t *testing.T) {
	for _, s := range rightStreams() {
		if !impl.StreamOk(s) {
			t.Errorf("%v is not StreamOk", s)
		}
	}
	for _, s := range wrongStreams() {
		if impl.StreamOk(s) {
			t.Errorf("%v is StreamOk", s)
		}
	}
	// all that is ahead of the last byte of a frame is no whole one yet
	b := streamFrame(sampleBox(139, 253))
	for cut := range len(b) + 1 {
		if ok := impl.StreamOk(impl.Stream{Buf: b[:cut]}); ok != (cut < len(b)) {
			t.Errorf("StreamOk of %d bytes of a frame of %d is %v", cut, len(b), ok)
		}
	}
	for n := mostWaiting - 2; n < mostWaiting+3; n++ {
		if ok := impl.StreamOk(impl.Stream{Buf: bytes.Repeat([]byte{7}, n)}); ok != (n <= mostWaiting) {
			t.Errorf("StreamOk of %d bytes is %v", n, ok)
		}
	}
}

func TestStreamRefuses(t *testing.T) {
	_, frames := sampleBoxes(1, 5)
	shut := []impl.Stream{{Shut: true}, {Buf: []byte{}, Shut: true}}
	for _, s := range append(wrongStreams(), shut...) {
		for _, b := range [][]byte{nil, {}, {0}, {1, 2, 3}, frames, frames[:9], make([]byte, 700)} {
			streams(t, s, b, s)
		}
	}
}

func TestStreamHearKnown(t *testing.T) {
	one, two := impl.Box{Number: 258, Unit: 17, Pdu: []byte{3, 0}}, impl.Box{Number: 9, Pdu: []byte{1}}
	first, second := []byte{1, 2, 0, 0, 0, 3, 17, 3, 0}, []byte{0, 9, 0, 0, 0, 2, 0, 1}
	both := slices.Concat(first, second)
	streams(t, impl.Stream{}, nil, impl.Stream{})
	streams(t, impl.Stream{}, []byte{}, impl.Stream{})
	streams(t, impl.Stream{}, first, impl.Stream{}, one)
	streams(t, impl.Stream{}, both, impl.Stream{}, one, two)
	streams(t, impl.Stream{}, append(bytes.Clone(both), 7), impl.Stream{Buf: []byte{7}}, one, two)
	streams(t, impl.Stream{}, first[:8], impl.Stream{Buf: first[:8]})
	streams(t, impl.Stream{Buf: first[:8]}, nil, impl.Stream{Buf: first[:8]})
	streams(t, impl.Stream{Buf: first[:8]}, first[8:], impl.Stream{}, one)
	streams(t, impl.Stream{Buf: first[:1]}, both[1:], impl.Stream{}, one, two)
	streams(t, impl.Stream{Buf: first[:1]}, slices.Concat(both[1:], both[:4]), impl.Stream{Buf: both[:4]}, one, two)
	streams(t, impl.Stream{Buf: first[:1]}, slices.Concat(both[1:], []byte{0, 0, 1}), impl.Stream{Shut: true}, one, two)
}

func TestTheSameFramesInAnyTwoPieces(t *testing.T) {
	for _, sizes := range [][]int{{}, {1}, {253}, {5, 1}, {1, 1, 1}, {253, 253, 253}, {7, 253, 1, 2, 3, 100}} {
		boxes, frames := sampleBoxes(sizes...)
		tellsInPieces(t, frames, impl.Stream{}, boxes...)
		next := streamFrame(sampleBox(140, 20))
		for _, cut := range []int{1, 2, 3, 4, 5, 6, 7, 8, len(next) - 1} {
			tellsInPieces(t, slices.Concat(frames, next[:cut]), impl.Stream{Buf: next[:cut]}, boxes...)
		}
	}
}

// Three pieces, cut at each two places.
func TestTheSameFramesInAnyThreePieces(t *testing.T) {
	boxes, frames := sampleBoxes(1, 3, 2)
	frames = append(frames, 0, 0, 0)
	for a := range len(frames) + 1 {
		for b := a; b <= len(frames); b++ {
			s, got := inPieces(t, frames[:a], frames[a:b], frames[b:])
			if !equalBoxes(got, boxes) || !equalStream(s, impl.Stream{Buf: []byte{0, 0, 0}}) {
				t.Errorf("cut at %d and %d: %v, %v", a, b, s, got)
			}
		}
	}
}

// noHeads is what is none as a head, each ending with the byte that makes it so.
func noHeads() [][]byte {
	list := [][]byte{{1, 2, 3}, {0, 0, 255}, {1, 2, 0, 1}, {1, 2, 0, 128}}
	for _, follow := range []int{0, 1, 255, 256, 65535} {
		list = append(list, headOf(follow, 0))
	}
	return list
}

func TestABadHeadShuts(t *testing.T) {
	for _, sizes := range [][]int{{}, {1}, {5, 1}, {253, 2, 253}} {
		boxes, frames := sampleBoxes(sizes...)
		_, more := sampleBoxes(4, 4)
		for _, head := range noHeads() {
			ahead := head[:len(head)-1]
			tellsInPieces(t, slices.Concat(frames, ahead), impl.Stream{Buf: ahead}, boxes...)
			tellsInPieces(t, slices.Concat(frames, head), impl.Stream{Shut: true}, boxes...)
			// nothing that comes behind is told any more
			tellsInPieces(t, slices.Concat(frames, head, more), impl.Stream{Shut: true}, boxes...)
		}
	}
	for _, head := range noHeads() {
		for cut := range head {
			streams(t, impl.Stream{Buf: head[:cut]}, head[cut:], impl.Stream{Shut: true})
		}
	}
}

// A Buf that begins with no head is no whole frame: it shuts, whatever comes, and with nothing, too.
func TestAStreamThatBeginsWithNoHeadShuts(t *testing.T) {
	_, frames := sampleBoxes(1, 5)
	for _, s := range oddStreams() {
		for _, b := range [][]byte{nil, {}, {0}, frames, make([]byte, 1000)} {
			streams(t, s, b, impl.Stream{Shut: true})
		}
	}
}

// How many bytes come at once is not limited: what is left counts.
func TestManyBytesAtOnce(t *testing.T) {
	var sizes []int
	for n := 1; n <= 253; n++ {
		sizes = append(sizes, n, 254-n)
	}
	boxes, frames := sampleBoxes(sizes...)
	last := streamFrame(sampleBox(141, 253))
	for _, cut := range []int{0, 1, 6, 7, len(last) - 1} {
		left := impl.Stream{Buf: last[:cut]}
		streams(t, impl.Stream{}, slices.Concat(frames, last[:cut]), left, boxes...)
		for _, n := range []int{1, 2, 7, 100, 259, 260, 261, 599, 600, 601, 1000} {
			s, got := inPieces(t, slices.Collect(slices.Chunk(slices.Concat(frames, last[:cut]), n))...)
			if !equalStream(s, left) || !equalBoxes(got, boxes) {
				t.Errorf("%d frames in pieces of %d are told as %d, and %v is left", len(boxes), n, len(got), s)
			}
		}
		streams(t, left, slices.Concat(last[cut:], frames), impl.Stream{}, slices.Insert(slices.Clone(boxes), 0, sampleBox(141, 253))...)
	}
	streams(t, impl.Stream{}, slices.Concat(frames, []byte{1, 2, 3}, frames), impl.Stream{Shut: true}, boxes...)
}

// What is left of a right head is fewer than a whole frame of 260 bytes, in whatever pieces it comes.
func TestNoMoreIsLeftThanAFrame(t *testing.T) {
	last := streamFrame(sampleBox(142, 253))
	for cut := range last {
		for split := range cut + 1 {
			s, got := inPieces(t, last[:split], last[split:cut])
			if !bytes.Equal(s.Buf, last[:cut]) || s.Shut || len(got) != 0 {
				t.Errorf("%d bytes of a frame, cut at %d: %v, %v", cut, split, s, got)
			}
		}
	}
}

// Mixed frames, turned bytes and pieces, held against the words of the chapter at each step.
func TestStreamsByManySteps(t *testing.T) {
	for seed := range uint32(300) {
		var all []byte
		for i, d := range sampleBytes(seed, 30) {
			frame := streamFrame(sampleBox(seed*64+uint32(i), 1+int(d)%253))
			if d%32 == 31 && seed%3 != 0 {
				at := int(seed) % 7
				frame[at] ^= d
			}
			all = append(all, frame...)
		}
		want, wantTold := slowStream(impl.Stream{}, all)
		s, told := impl.Stream{}, []impl.Box(nil)
		for _, d := range sampleBytes(seed+143, 2000) {
			n := min(int(d)*int(d)/(1+int(seed)%90), len(all))
			next, boxes := slowStream(s, all[:n])
			streams(t, s, all[:n], next, boxes...)
			s, told, all = next, append(told, boxes...), all[n:]
		}
		s, rest := slowStream(s, all)
		if !equalStream(s, want) || !equalBoxes(append(told, rest...), wantTold) {
			t.Fatalf("seed %d: the pieces tell %d boxes, the whole %d", seed, len(told), len(wantTold))
		}
		if t.Failed() {
			t.Fatal("seed", seed)
		}
	}
}

func TestStreamsAsWorded(t *testing.T) {
	boxes, frames := sampleBoxes(1, 5, 253)
	pieces := [][]byte{nil, {0}, {0, 0}, {9}, {0, 0, 0, 6}, frames, frames[:20], frames[3:], append(bytes.Clone(frames), 1, 2, 3), streamFrame(boxes[0])}
	for _, s := range slices.Concat(rightStreams(), wrongStreams()) {
		for _, b := range pieces {
			want, told := slowStream(s, b)
			streams(t, s, b, want, told...)
			if impl.StreamOk(s) && !impl.StreamOk(want) {
				t.Errorf("%v, which was heard, is not StreamOk", want)
			}
		}
	}
}

func TestStreamFramesAreNewMemory(t *testing.T) {
	for _, n := range []int{0, 1, 5, 253, 254} {
		for _, unit := range []int{-1, 0, 9, 256} {
			pdu, unchanged := roomy(t, sampleBytes(144, n))
			b, again := impl.PutMbap(7, unit, pdu), impl.PutMbap(7, unit, pdu)
			unchanged("PutMbap")
			was := bytes.Clone(again)
			spoil(b)
			unchanged("what PutMbap answered")
			spoil(pdu)
			if !bytes.Equal(again, was) {
				t.Errorf("PutMbap(7, %d, %d bytes) shares memory", unit, n)
			}
		}
	}
	boxes, frames := sampleBoxes(1, 5, 253)
	for _, text := range [][]byte{nil, {1}, {1, 2, 3}, headOf(0, 0), headOf(9, 4), frames, frames[8:], streamFrame(boxes[2])} {
		b, unchanged := roomy(t, text)
		_, _, first, _, _ := impl.NextMbap(b)
		_, _, second, _, _ := impl.NextMbap(b)
		unchanged("NextMbap")
		was := bytes.Clone(second)
		spoil(first)
		unchanged("what NextMbap answered")
		spoil(b)
		if !bytes.Equal(second, was) {
			t.Errorf("NextMbap of %x shares memory", text)
		}
	}
}

var streamMemory = memoryOf[impl.Stream, impl.Box]{
	buf:       func(s *impl.Stream) *[]byte { return &s.Buf },
	pdu:       func(box *impl.Box) *[]byte { return &box.Pdu },
	equal:     equalStream,
	equalTold: equalBox,
}

func TestStreamAnswersNewMemory(t *testing.T) {
	boxes, frames := sampleBoxes(1, 5, 253)
	pieces := [][]byte{nil, {}, {0}, {1, 2, 3}, frames, frames[:20], frames[3:], append(bytes.Clone(frames), 1, 2), streamFrame(boxes[0]), make([]byte, 700)}
	for _, s := range slices.Concat(rightStreams(), wrongStreams()) {
		for _, piece := range pieces {
			b, unchanged := roomy(t, piece)
			answersNewMemory(t, "StreamHear", s, streamMemory, func(s impl.Stream) (impl.Stream, []impl.Box) { return impl.StreamHear(s, b) })
			unchanged("StreamHear of pieces, and what it answered")
			next, told := impl.StreamHear(s, b)
			was, wasTold := impl.Stream{Buf: bytes.Clone(next.Buf), Shut: next.Shut}, streamMemory.cloneTold(told)
			spoil(b)
			if !equalStream(next, was) || !equalBoxes(told, wasTold) {
				t.Errorf("StreamHear of %v: an answer shares memory with the bytes that came", s)
			}
		}
		buf, unchanged := roomy(t, s.Buf)
		s.Buf = buf
		impl.StreamOk(s)
		unchanged("StreamOk")
	}
}

// What is heard may be a piece of what is kept: neither is written into.
func TestAStreamThatHearsItsOwnBytes(t *testing.T) {
	b := streamFrame(sampleBox(145, 9))
	for cut := range b {
		for from := range cut + 1 {
			was := bytes.Clone(b)
			s := impl.Stream{Buf: b[:cut]}
			want, told := slowStream(impl.Stream{Buf: was[:cut]}, was[from:])
			streams(t, s, b[from:], want, told...)
			if !bytes.Equal(b, was) {
				t.Fatalf("the bytes became %x, they were %x", b, was)
			}
		}
	}
}
