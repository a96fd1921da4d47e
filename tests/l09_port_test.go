package tests

import (
	"bytes"
	"fmt"
	"math"
	"slices"
	"strings"
	"testing"

	"loop.example/g00129/impl"
)

const mostErrors = 1000000

var portKinds = []int{impl.PortRtu, impl.PortAscii, impl.PortStream}

func equalPort(a impl.Port, b impl.Port) bool {
	return a.Kind == b.Kind && equalRtu(a.R, b.R) && equalAscii(a.A, b.A) && equalStream(a.S, b.S) && a.Errors == b.Errors
}

func rtuOf(r impl.Rtu) impl.Port       { return impl.Port{Kind: impl.PortRtu, R: r} }
func asciiOf(a impl.Ascii) impl.Port   { return impl.Port{Kind: impl.PortAscii, A: a} }
func streamOf(s impl.Stream) impl.Port { return impl.Port{Kind: impl.PortStream, S: s} }

func withErrors(p impl.Port, n int) impl.Port {
	p.Errors = n
	return p
}

// portFrame is the bytes of a box in this Kind, as its chapter words them.
func portFrame(kind int, box impl.Box) []byte {
	switch kind {
	case impl.PortRtu:
		return frameOf(box.Unit, box.Pdu)
	case impl.PortAscii:
		return digitsFrame(box.Unit, box.Pdu)
	}
	return streamFrame(box)
}

// heardBox is what is heard of a box: the Number stays where the Kind has one.
func heardBox(kind int, box impl.Box) impl.Box {
	if kind != impl.PortStream {
		box.Number = 0
	}
	return box
}

// slowSift is p with what was told counted, and the boxes of what was good.
func slowSift(p impl.Port, told []impl.Got) (impl.Port, []impl.Box) {
	var boxes []impl.Box
	for _, got := range told {
		if got.Code == impl.FrameGood {
			boxes = append(boxes, impl.Box{Unit: got.Unit, Pdu: got.Pdu})
		} else if p.Errors < mostErrors {
			p.Errors++
		}
	}
	return p, boxes
}

// slowPortHear is PortHear of a right port and a tick, as chapter 9 words it.
func slowPortHear(p impl.Port, b []byte, tick int) (impl.Port, []impl.Box) {
	if p.Kind == impl.PortStream {
		s, boxes := slowStream(p.S, b)
		if s.Shut && !p.S.Shut && p.Errors < mostErrors {
			p.Errors++
		}
		p.S = s
		return p, boxes
	}
	var all []impl.Got
	for _, x := range b {
		var told []impl.Got
		if p.Kind == impl.PortRtu {
			p.R, told = slowHear(p.R, x, tick)
		} else {
			p.A, told = slowAscii(p.A, x, tick)
		}
		all = append(all, told...)
	}
	return slowSift(p, all)
}

// slowPortWait is PortWait of a right port and a tick, as chapter 9 words it.
func slowPortWait(p impl.Port, tick int) (impl.Port, []impl.Box) {
	if p.Kind != impl.PortRtu {
		return p, nil
	}
	r, told := slowWait(p.R, tick)
	p.R = r
	return slowSift(p, told)
}

// portHears wants that p, of these bytes at this tick, is this then and tells these.
func portHears(t *testing.T, p impl.Port, b []byte, tick int, want impl.Port, told ...impl.Box) {
	t.Helper()
	if is, got := impl.PortHear(p, b, tick); !equalPort(is, want) || !equalBoxes(got, told) {
		t.Errorf("PortHear of %v, %d bytes, %x, and %d is %v, %v, not %v, %v", p, len(b), b, tick, is, got, want, told)
	}
}

// portWaits wants that p, at this tick, is this then and tells these.
func portWaits(t *testing.T, p impl.Port, tick int, want impl.Port, told ...impl.Box) {
	t.Helper()
	if is, got := impl.PortWait(p, tick); !equalPort(is, want) || !equalBoxes(got, told) {
		t.Errorf("PortWait of %v and %d is %v, %v, not %v, %v", p, tick, is, got, want, told)
	}
}

func TestPortNames(t *testing.T) {
	if !slices.Equal(portKinds, []int{1, 2, 3}) {
		t.Errorf("the Kinds are %v", portKinds)
	}
}

func TestPortNew(t *testing.T) {
	waits := []int{math.MinInt, math.MinInt + 1, -1000, -1, 0, 1, 2, 3, 500, 999, 1000, 1001, 1002, 1 << 32, math.MaxInt - 1, math.MaxInt}
	for _, kind := range []int{math.MinInt, -3, -2, -1, 0, 1, 2, 3, 4, 5, 1 << 32, 1<<32 + 1, math.MaxInt} {
		for _, wait := range waits {
			var want impl.Port
			switch {
			case kind == 1 && wait >= 2 && wait <= 1000:
				want = impl.Port{Kind: 1, R: impl.Rtu{Half: 2, Whole: wait}}
			case kind == 2 && wait >= 1 && wait <= 1000:
				want = impl.Port{Kind: 2, A: impl.Ascii{Wait: wait}}
			case kind == 3:
				want = impl.Port{Kind: 3}
			}
			p := impl.PortNew(kind, wait)
			if !equalPort(p, want) || impl.PortOk(p) != (want.Kind != 0) {
				t.Errorf("PortNew(%d, %d) is %v, not %v, PortOk %v", kind, wait, p, want, impl.PortOk(p))
			}
		}
	}
}

// plainPorts is right ports: of each Kind each right one of it, without errors.
func plainPorts() []impl.Port {
	var list []impl.Port
	for _, r := range rightRtus() {
		list = append(list, rtuOf(r))
	}
	for _, a := range rightAsciis() {
		list = append(list, asciiOf(a))
	}
	for _, s := range rightStreams() {
		list = append(list, streamOf(s))
	}
	return list
}

// fewPorts is right ports of each Kind, in each of its states, at some ticks.
func fewPorts() []impl.Port {
	var list []impl.Port
	for _, last := range []int{0, 100, lastTick} {
		for _, buf := range [][]byte{nil, {7}, frameOf(8, []byte{1, 2}), make([]byte, 257)} {
			list = append(list, rtuOf(impl.Rtu{Buf: buf, Last: last, Half: 2, Whole: 4}), rtuOf(impl.Rtu{Buf: buf, Last: last, Bad: len(buf) > 1, Half: 1, Whole: 1000}))
		}
		for _, text := range []string{"", ":", ":0102FD\r", ":0102FE\r", ":" + strings.Repeat("0", mostHeard-1)} {
			list = append(list, asciiOf(impl.Ascii{Buf: []byte(text), Open: text != "", Last: last, Wait: 3}))
		}
	}
	for _, s := range rightStreams() {
		list = append(list, streamOf(s))
	}
	return list
}

// foreignPorts is p with each field of each other Kind set by itself.
func foreignPorts(p impl.Port) []impl.Port {
	var list []impl.Port
	set := func(kind int, change func(p *impl.Port)) {
		if q := p; kind != p.Kind {
			change(&q)
			list = append(list, q)
		}
	}
	set(impl.PortRtu, func(p *impl.Port) { p.R.Buf = []byte{0} })
	set(impl.PortRtu, func(p *impl.Port) { p.R.Last = 1 })
	set(impl.PortRtu, func(p *impl.Port) { p.R.Last = -1 })
	set(impl.PortRtu, func(p *impl.Port) { p.R.Bad = true })
	set(impl.PortRtu, func(p *impl.Port) { p.R.Half = 1 })
	set(impl.PortRtu, func(p *impl.Port) { p.R.Whole = 1 })
	set(impl.PortRtu, func(p *impl.Port) { p.R = impl.RtuNew(2, 4) })
	set(impl.PortAscii, func(p *impl.Port) { p.A.Buf = []byte{':'} })
	set(impl.PortAscii, func(p *impl.Port) { p.A.Open = true })
	set(impl.PortAscii, func(p *impl.Port) { p.A.Last = 1 })
	set(impl.PortAscii, func(p *impl.Port) { p.A.Last = -1 })
	set(impl.PortAscii, func(p *impl.Port) { p.A.Wait = 1 })
	set(impl.PortAscii, func(p *impl.Port) { p.A.Wait = -1 })
	set(impl.PortAscii, func(p *impl.Port) { p.A = impl.AsciiNew(3) })
	set(impl.PortStream, func(p *impl.Port) { p.S.Buf = []byte{0} })
	set(impl.PortStream, func(p *impl.Port) { p.S.Shut = true })
	return list
}

// wrongPorts is ports that are not right, each by one thing alone.
func wrongPorts() []impl.Port {
	list := []impl.Port{{}, {Errors: 1}}
	for _, r := range wrongRtus() {
		list = append(list, rtuOf(r))
	}
	for _, a := range wrongAsciis() {
		list = append(list, asciiOf(a))
	}
	for _, s := range wrongStreams() {
		list = append(list, streamOf(s))
	}
	for _, p := range fewPorts() {
		list = append(list, foreignPorts(p)...)
		for _, n := range []int{-1, -2, math.MinInt, mostErrors + 1, mostErrors + 2, 1 << 32, math.MaxInt - 1, math.MaxInt} {
			list = append(list, withErrors(p, n))
		}
		for _, kind := range []int{0, 4, -1, 1<<32 + 1, math.MinInt, math.MaxInt, p.Kind%3 + 1, (p.Kind+1)%3 + 1} {
			q := p
			q.Kind = kind
			// what is zero is a right Stream
			if kind != impl.PortStream || !equalPort(q, impl.Port{Kind: kind}) {
				list = append(list, q)
			}
		}
	}
	return list
}

func TestPortOk(t *testing.T) {
	for _, p := range plainPorts() {
		for _, n := range []int{0, 1, 500, mostErrors - 1, mostErrors} {
			if !impl.PortOk(withErrors(p, n)) {
				t.Errorf("%v with %d errors is not PortOk", p, n)
			}
		}
	}
	for _, p := range wrongPorts() {
		if impl.PortOk(p) {
			t.Errorf("%v is PortOk", p)
		}
	}
}

// An empty list is the same as none, whatever room is behind it.
func TestPortOkGoesByTheLength(t *testing.T) {
	room := bytes.Repeat([]byte{':'}, 1000)[:0]
	for _, kind := range portKinds {
		p := impl.PortNew(kind, 4)
		p.R.Buf, p.A.Buf, p.S.Buf = room, room, room
		if !impl.PortOk(p) {
			t.Errorf("a port of Kind %d with empty lists is not PortOk", kind)
		}
		want := impl.PortNew(kind, 4)
		portHears(t, p, nil, 7, want)
		portWaits(t, p, 7, want)
		if b := impl.PortSay(p, impl.Box{Pdu: []byte{1}}); len(b) == 0 {
			t.Errorf("a port of Kind %d with empty lists says nothing", kind)
		}
	}
}

// hearPieces hears each piece at its tick and waits for what is told behind the silence.
func hearPieces(t *testing.T, p impl.Port, tick int, step int, pieces ...[]byte) (impl.Port, []impl.Box) {
	t.Helper()
	var all []impl.Box
	for i, piece := range pieces {
		var told []impl.Box
		if i > 0 {
			tick = later(tick, step)
		}
		p, told = impl.PortHear(p, piece, tick)
		if !impl.PortOk(p) {
			t.Fatalf("behind %x: %v is not PortOk", piece, p)
		}
		all = append(all, told...)
	}
	if p.Kind == impl.PortRtu {
		if next, told := impl.PortWait(p, later(tick, p.R.Whole-1)); !equalPort(next, p) || len(told) != 0 {
			t.Errorf("%v tells %v ahead of the silence", p, told)
		}
	}
	p, told := impl.PortWait(p, later(tick, 1000))
	return p, append(all, told...)
}

// saysAndHears wants that what one port says of a box another one of its Kind hears, at once and byte by byte.
func saysAndHears(t *testing.T, sayer impl.Port, hearer impl.Port, box impl.Box) {
	t.Helper()
	b := impl.PortSay(sayer, box)
	if want := portFrame(sayer.Kind, box); !bytes.Equal(b, want) {
		t.Errorf("PortSay of Kind %d and %v is %x, not %x", sayer.Kind, box, b, want)
	}
	want := []impl.Box{heardBox(sayer.Kind, box)}
	for _, tick := range []int{0, 77, lastTick} {
		for step := range 2 {
			whole, told := hearPieces(t, hearer, tick, step, b)
			each, gathered := hearPieces(t, hearer, tick, step, slices.Collect(slices.Chunk(b, 1))...)
			if !equalBoxes(told, want) || !equalBoxes(gathered, want) || whole.Errors != hearer.Errors || each.Errors != hearer.Errors {
				t.Errorf("Kind %d, %v is heard as %v, byte by byte as %v, with %d and %d errors", sayer.Kind, box, told, gathered, whole.Errors, each.Errors)
			}
		}
	}
}

func TestWhatOnePortSaysAnotherHears(t *testing.T) {
	for _, kind := range portKinds {
		for n := 1; n <= 253; n++ {
			saysAndHears(t, impl.PortNew(kind, 4), impl.PortNew(kind, 1000), sampleBox(uint32(n), n))
		}
		for _, pdu := range [][]byte{{0}, {255}, {':'}, {13, 10}, make([]byte, 253), bytes.Repeat([]byte{255}, 253), bytes.Repeat([]byte{':'}, 253)} {
			for _, unit := range []int{0, 1, 10, 13, 58, 127, 128, 247, 255} {
				for _, number := range []int{0, 1, 255, 256, 32768, 65535} {
					saysAndHears(t, impl.PortNew(kind, 2), impl.PortNew(kind, 2), impl.Box{Number: number, Unit: unit, Pdu: pdu})
				}
			}
		}
		for unit := range 256 {
			saysAndHears(t, impl.PortNew(kind, 3), withErrors(impl.PortNew(kind, 2), 17), impl.Box{Number: unit * 257, Unit: unit, Pdu: []byte{byte(unit)}})
		}
	}
}

func TestPortsSayKnown(t *testing.T) {
	box := impl.Box{Number: 258, Unit: 1, Pdu: []byte{3, 0, 0, 0, 1}}
	for kind, want := range map[int]string{1: "010300000001840A", 2: hexText([]byte(":010300000001FB\r\n")), 3: "010200000006010300000001"} {
		if got := impl.Hex(impl.PortSay(impl.PortNew(kind, 4), box)); got != want {
			t.Errorf("Kind %d says %s, not %s", kind, got, want)
		}
	}
}

// What a port says does not hang on what it hears, nor on how many errors it met, nor on whether it is shut.
func TestPortsSayInEachState(t *testing.T) {
	box := impl.Box{Number: 7, Unit: 9, Pdu: []byte{1, 2, 3}}
	for _, p := range plainPorts() {
		for _, n := range []int{0, mostErrors} {
			if b := impl.PortSay(withErrors(p, n), box); !bytes.Equal(b, portFrame(p.Kind, box)) {
				t.Errorf("%v says %x", p, b)
			}
		}
	}
	for _, p := range wrongPorts() {
		if b := impl.PortSay(p, box); len(b) != 0 {
			t.Errorf("%v, which is not PortOk, says %x", p, b)
		}
	}
}

func TestWhatAPortCanNotSay(t *testing.T) {
	ends := []int{math.MinInt, math.MinInt + 1, -65536, -256, -1, 0, 1, 255, 256, 257, 65535, 65536, 65537, 1 << 32, math.MaxInt}
	for _, kind := range portKinds {
		p := impl.PortNew(kind, 4)
		for _, number := range ends {
			for _, unit := range ends {
				for _, n := range []int{0, 1, 2, 252, 253, 254, 255, 600} {
					box := impl.Box{Number: number, Unit: unit, Pdu: sampleBytes(150, n)}
					var want []byte
					// a Kind whose frames have no number says whatever Number
					if unit >= 0 && unit <= 255 && n >= 1 && n <= 253 && (kind != impl.PortStream || number >= 0 && number <= 65535) {
						want = portFrame(kind, box)
					}
					if b := impl.PortSay(p, box); !bytes.Equal(b, want) {
						t.Errorf("Kind %d says %x of %d, %d and %d bytes", kind, b, number, unit, n)
					}
				}
			}
		}
	}
}

func TestPortsRefuse(t *testing.T) {
	pieces := [][]byte{nil, {1}, {':', 10, ':'}, frameOf(8, []byte{1}), streamFrame(sampleBox(151, 3)), {1, 2, 3, 4, 5, 6}}
	for _, p := range wrongPorts() {
		for _, tick := range []int{0, 7, 104, 5000, lastTick, -1, lastTick + 1} {
			portWaits(t, p, tick, p)
			for _, b := range pieces {
				portHears(t, p, b, tick, p)
			}
		}
	}
	for _, p := range plainPorts() {
		for _, tick := range noTicks {
			portWaits(t, p, tick, p)
			for _, b := range pieces {
				portHears(t, p, b, tick, p)
			}
		}
	}
}

// Of no bytes nothing is heard: a silence is told by PortWait alone.
func TestAPortHearsNoBytes(t *testing.T) {
	odd := oddStreams()
	for _, p := range plainPorts() {
		want := p
		if slices.ContainsFunc(odd, func(s impl.Stream) bool { return equalStream(s, p.S) }) {
			want = withErrors(streamOf(impl.Stream{Shut: true}), 1)
		}
		for _, tick := range []int{p.R.Last, later(p.R.Last+p.A.Last, 5000)} {
			portHears(t, p, nil, tick, want)
			portHears(t, p, []byte{}, tick, want)
		}
	}
}

func TestPortWaitOfTheOtherKinds(t *testing.T) {
	for _, p := range plainPorts() {
		if p.Kind == impl.PortRtu {
			continue
		}
		for _, tick := range append([]int{p.A.Last, later(p.A.Last, 1), later(p.A.Last, p.A.Wait), later(p.A.Last, 5000)}, edgeTicks...) {
			portWaits(t, withErrors(p, 5), tick, withErrors(p, 5))
		}
	}
}

func TestPortWaitOfSilences(t *testing.T) {
	good, sum := frameOf(6, []byte{3, 4}), frameOf(6, []byte{3, 4})
	sum[1] ^= 1
	box := impl.Box{Unit: 6, Pdu: []byte{3, 4}}
	for _, k := range []struct {
		buf    []byte
		bad    bool
		errors int
		told   []impl.Box
	}{
		{good, false, 0, []impl.Box{box}}, {good, true, 1, nil}, {sum, false, 1, nil}, {sum, true, 1, nil},
		{good[:3], false, 1, nil}, {good[:1], false, 1, nil}, {make([]byte, 257), false, 1, nil}, {make([]byte, 257), true, 1, nil}, {nil, false, 0, nil},
	} {
		for _, last := range []int{0, 100, lastTick} {
			for _, n := range []int{0, 41, mostErrors - 1, mostErrors} {
				p := withErrors(rtuOf(impl.Rtu{Buf: k.buf, Last: last, Bad: k.bad, Half: 2, Whole: 4}), n)
				ended := withErrors(rtuOf(impl.Rtu{Last: last, Half: 2, Whole: 4}), min(n+k.errors, mostErrors))
				portWaits(t, p, last, p)
				portWaits(t, p, later(last, 3), p)
				portWaits(t, p, later(last, 4), ended, k.told...)
				portWaits(t, p, later(last, 5000), ended, k.told...)
				// the next bytes tell the same, and are heard
				ended.R.Buf, ended.R.Last = []byte{9, 8}, later(last, 4)
				portHears(t, p, []byte{9, 8}, later(last, 4), ended, k.told...)
			}
		}
	}
}

// Each code that is not FrameGood is an error; FrameGood is none.
func TestWhatCountsAsAnError(t *testing.T) {
	open := func(text string) []byte { return append([]byte(text), ":0102FD\r\n"...) }
	heard := impl.Box{Unit: 1, Pdu: []byte{2}}
	for _, k := range []struct {
		text   []byte
		errors int
	}{
		{open(""), 0}, {open("x\r\n"), 0}, {open("0102FE\r\n"), 0}, {open(":"), 1}, {open("::"), 2}, {open(":\n"), 1}, {open(":\r\n"), 1}, {open(":01\r\n"), 1}, {open(":0102FE\r\n"), 1}, {open(":0102FD\n"), 1}, {open(":0102fd\r\n"), 1},
		{open(":0102FE\r\n:0102FF\r\n:::"), 5}, {open(string(lineOf(withLrc(make([]byte, 255))))), 1}, {open(":" + strings.Repeat("0", mostHeard-1)), 1}, {open(":" + strings.Repeat("0", mostHeard)), 1}, {open(":" + strings.Repeat("0", 3*mostHeard)), 1},
	} {
		for _, n := range []int{0, 10, mostErrors - 3, mostErrors - 2, mostErrors - 1, mostErrors} {
			p := withErrors(impl.PortNew(impl.PortAscii, 3), n)
			want := withErrors(asciiOf(impl.Ascii{Last: 50, Wait: 3}), min(n+k.errors, mostErrors))
			portHears(t, p, k.text, 50, want, heard)
			each, told := hearPieces(t, p, 50, 0, slices.Collect(slices.Chunk(k.text, 1))...)
			if !equalPort(each, want) || !equalBoxes(told, []impl.Box{heard}) {
				t.Errorf("%q byte by byte is %v, %v", k.text, each, told)
			}
		}
	}
	gap := asciiOf(impl.Ascii{Buf: []byte(":0102FD\r"), Open: true, Last: 50, Wait: 3})
	portHears(t, gap, []byte("\n"), 52, asciiOf(impl.Ascii{Last: 52, Wait: 3}), heard)
	portHears(t, gap, []byte("\n"), 53, withErrors(asciiOf(impl.Ascii{Last: 53, Wait: 3}), 1))
	portHears(t, gap, []byte(":0102FD\r\n"), 53, withErrors(asciiOf(impl.Ascii{Last: 53, Wait: 3}), 1), heard)
	portHears(t, gap, []byte(":"), 52, withErrors(asciiOf(impl.Ascii{Buf: []byte(":"), Open: true, Last: 52, Wait: 3}), 1))
}

// A stream that is shut by this is one error, however much comes; one that was shut ahead of it is none.
func TestAStreamThatIsShutIsOneError(t *testing.T) {
	boxes, frames := sampleBoxes(1, 5, 253)
	shut := impl.Stream{Shut: true}
	for _, head := range noHeads() {
		for _, n := range []int{0, 1, mostErrors - 1, mostErrors} {
			p, after := withErrors(impl.PortNew(impl.PortStream, 0), n), withErrors(streamOf(shut), min(n+1, mostErrors))
			portHears(t, p, head, 5, after)
			portHears(t, p, slices.Concat(frames, head, head, frames), 5, after, boxes...)
			each, told := hearPieces(t, p, 5, 1, slices.Collect(slices.Chunk(slices.Concat(frames, head, head, frames), 1))...)
			if !equalPort(each, after) || !equalBoxes(told, boxes) {
				t.Errorf("byte by byte: %v, %v", each, told)
			}
			p.S = shut
			for _, b := range [][]byte{nil, {0}, head, frames, make([]byte, 1000)} {
				portHears(t, p, b, 5, p)
			}
		}
	}
	for _, s := range oddStreams() {
		portHears(t, withErrors(streamOf(s), 3), frames, 5, withErrors(streamOf(shut), 4))
	}
}

// A tick does not matter to a stream, as long as it is one.
func TestAStreamHearsAtAnyTick(t *testing.T) {
	boxes, frames := sampleBoxes(2, 9)
	for _, tick := range edgeTicks {
		p, told := impl.PortHear(impl.PortNew(impl.PortStream, -9), frames[:4], tick)
		p, more := impl.PortHear(p, frames[4:], later(tick, 1<<31))
		if !equalPort(p, impl.Port{Kind: impl.PortStream}) || len(told) != 0 || !equalBoxes(more, boxes) {
			t.Errorf("at %d: %v, %v, %v", tick, p, told, more)
		}
	}
}

// Frames one behind the other, good ones and others: the good ones are told in their order, the others counted.
func TestPortsHearSeveralFrames(t *testing.T) {
	boxes, _ := sampleBoxes(1, 9, 253, 2, 50)
	for _, kind := range portKinds {
		for spoiled := range 32 {
			if kind == impl.PortStream && spoiled != 0 {
				continue
			}
			p, tick, want, errors := impl.PortNew(kind, 4), lastTick-6, []impl.Box(nil), 0
			var pieces [][]byte
			for i, box := range boxes {
				b := impl.PortSay(p, box)
				if spoiled>>i&1 == 1 {
					b[len(b)-3] ^= 1
					errors++
				} else {
					want = append(want, heardBox(kind, box))
				}
				pieces = append(pieces, b)
			}
			if next, told := hearPieces(t, p, tick, 4, pieces...); !equalBoxes(told, want) || next.Errors != errors {
				t.Errorf("Kind %d: %v is told with %d errors, not %v with %d", kind, told, next.Errors, want, errors)
			}
			if kind == impl.PortRtu {
				continue
			}
			next, told := impl.PortHear(p, bytes.Join(pieces, nil), tick)
			if !equalBoxes(told, want) || next.Errors != errors {
				t.Errorf("Kind %d at once: %v is told with %d errors, not %v with %d", kind, told, next.Errors, want, errors)
			}
		}
	}
}

// On a line without digits two frames without a silence between them are one, and none.
func TestFramesWithoutASilenceBetween(t *testing.T) {
	p := impl.PortNew(impl.PortRtu, 4)
	b := impl.PortSay(p, impl.Box{Unit: 3, Pdu: []byte{1}})
	p, told := hearPieces(t, p, 10, 0, b, b)
	if len(told) != 0 || p.Errors != 1 {
		t.Errorf("two frames at one tick: %v, %v", p, told)
	}
	p, told = hearPieces(t, impl.PortNew(impl.PortRtu, 4), 10, 2, b[:2], b[2:])
	if len(told) != 0 || p.Errors != 1 {
		t.Errorf("a frame with a gap: %v, %v", p, told)
	}
}

func TestPortsAsWorded(t *testing.T) {
	boxes, frames := sampleBoxes(1, 5)
	pieces := [][]byte{nil, {0}, {10}, {13, 10}, {':'}, []byte("::0102FD\r\n:0102FE\r\nx:"), frames, frames[3:], frameOf(8, []byte{1, 2}), streamFrame(boxes[0]), {1, 2, 3}, make([]byte, 300)}
	for _, p := range plainPorts() {
		for _, gap := range []int{0, 1, 2, 3, 4, 999, 1000} {
			tick := later(p.R.Last+p.A.Last, gap)
			for _, n := range []int{0, mostErrors - 1} {
				q := withErrors(p, n)
				want, told := slowPortWait(q, tick)
				portWaits(t, q, tick, want, told...)
			}
			for i, b := range pieces {
				q := withErrors(p, (i*333335)%(mostErrors+1))
				want, told := slowPortHear(q, b, tick)
				portHears(t, q, b, tick, want, told...)
				if !impl.PortOk(want) {
					t.Errorf("%v, which was heard, is not PortOk", want)
				}
			}
		}
	}
}

// Mixed frames, turned bytes, pieces and silences, held against the words of the chapter at each step.
func TestPortsByManySteps(t *testing.T) {
	for seed := range uint32(120) {
		kind := portKinds[seed%3]
		p := withErrors(impl.PortNew(kind, 2+int(seed)%5), mostErrors-int(seed)%40)
		tick, left := later(lastTick-200, int(seed)), []byte(nil)
		for i, d := range sampleBytes(seed, 300) {
			if len(left) == 0 {
				left = impl.PortSay(p, sampleBox(seed*32+uint32(i), 1+int(d)%60))
			}
			if d > 245 {
				left[int(d)%len(left)] ^= d
			}
			if d%3 == 0 {
				tick = later(tick, int(d)%8)
			}
			if d%5 == 0 {
				want, told := slowPortWait(p, tick)
				portWaits(t, p, tick, want, told...)
				p = want
			}
			n := min(int(d)%70, len(left))
			want, told := slowPortHear(p, left[:n], tick)
			portHears(t, p, left[:n], tick, want, told...)
			p, left = want, left[n:]
		}
		if t.Failed() {
			t.Fatal("seed", seed)
		}
	}
}

// portMemories tells of each list that a port keeps.
func portMemories() []memoryOf[impl.Port, impl.Box] {
	var list []memoryOf[impl.Port, impl.Box]
	for _, buf := range []func(*impl.Port) *[]byte{
		func(p *impl.Port) *[]byte { return &p.R.Buf },
		func(p *impl.Port) *[]byte { return &p.A.Buf },
		func(p *impl.Port) *[]byte { return &p.S.Buf },
	} {
		list = append(list, memoryOf[impl.Port, impl.Box]{buf: buf, pdu: streamMemory.pdu, equal: equalPort, equalTold: equalBox})
	}
	return list
}

// allThree is ports with something in each of their lists, which are no right ones.
func allThree() []impl.Port {
	p := impl.Port{R: impl.Rtu{Buf: frameOf(8, []byte{1}), Last: 7, Half: 2, Whole: 4}, A: impl.Ascii{Buf: []byte(":01"), Open: true, Last: 7, Wait: 3}, S: impl.Stream{Buf: []byte{0, 1, 0}}}
	list := []impl.Port{p}
	for _, kind := range portKinds {
		p.Kind = kind
		list = append(list, p)
	}
	return list
}

func TestPortAnswersNewMemory(t *testing.T) {
	_, frames := sampleBoxes(1, 5, 253)
	digits := []byte("::0102FD\r\n:0102FE\r\n:0103FC\r\n:01")
	pieces := [][]byte{nil, {}, {0}, {10}, digits, frames, frames[:20], {1, 2, 3}}
	memories := portMemories()
	for _, p := range slices.Concat(fewPorts(), wrongPorts(), allThree()) {
		for i, memory := range memories {
			if p.Kind != i+1 && len(*memory.buf(&p)) == 0 {
				continue
			}
			for _, tick := range []int{p.R.Last, later(max(p.R.Last, 0), 4), -1} {
				answersNewMemory(t, "PortWait", p, memory, func(p impl.Port) (impl.Port, []impl.Box) { return impl.PortWait(p, tick) })
				for _, piece := range pieces {
					b, unchanged := roomy(t, piece)
					answersNewMemory(t, "PortHear", p, memory, func(p impl.Port) (impl.Port, []impl.Box) { return impl.PortHear(p, b, tick) })
					unchanged("PortHear of pieces, and what it answered")
				}
			}
			in := p
			buf, unchanged := roomy(t, *memory.buf(&p))
			*memory.buf(&in) = buf
			impl.PortOk(in)
			impl.PortSay(in, impl.Box{Unit: 1, Pdu: []byte{2}})
			unchanged("PortOk or PortSay")
		}
	}
}

// What is heard is copied: bytes that are written over later change nothing that was answered.
func TestPortsKeepNothingOfTheBytesThatCame(t *testing.T) {
	for _, kind := range portKinds {
		p := impl.PortNew(kind, 4)
		frame := impl.PortSay(p, impl.Box{Unit: 3, Pdu: []byte{4, 5}})
		b := slices.Concat(frame, frame[:3])
		if kind == impl.PortRtu {
			b = frame[:5]
		}
		want, wantTold := slowPortHear(p, bytes.Clone(b), 10)
		next, told := impl.PortHear(p, b, 10)
		spoil(b)
		if !equalPort(next, want) || !equalBoxes(told, wantTold) {
			t.Errorf("Kind %d shares memory with the bytes that came: %v, %v", kind, next, told)
		}
	}
}

// Two lists of a port that is handed in may be one: those that are answered are not.
func TestPortListsShareNothing(t *testing.T) {
	shared := []byte(":0123456")
	for _, kind := range []int{0, 1, 2, 3} {
		p := impl.Port{Kind: kind, R: impl.Rtu{Buf: shared}, A: impl.Ascii{Buf: shared[1:]}, S: impl.Stream{Buf: shared[2:]}}
		for what, ask := range map[string]func() (impl.Port, []impl.Box){
			"PortHear": func() (impl.Port, []impl.Box) { return impl.PortHear(p, []byte{1}, 5) },
			"PortWait": func() (impl.Port, []impl.Box) { return impl.PortWait(p, 5) },
		} {
			first, _ := ask()
			spoil(first.R.Buf)
			spoil(first.S.Buf)
			second, _ := ask()
			spoil(second.A.Buf)
			if !bytes.Equal(first.A.Buf, shared[1:]) || !bytes.Equal(second.R.Buf, shared) || !bytes.Equal(second.S.Buf, shared[2:]) {
				t.Errorf("%s of Kind %d: two lists share memory", what, kind)
			}
		}
	}
}

func TestPortSayIsNewMemory(t *testing.T) {
	for _, kind := range []int{0, 1, 2, 3} {
		for _, n := range []int{0, 1, 5, 253, 254} {
			p := impl.PortNew(kind, 4)
			pdu, unchanged := roomy(t, sampleBytes(152, n))
			box := impl.Box{Number: 5, Unit: 9, Pdu: pdu}
			b, again := impl.PortSay(p, box), impl.PortSay(p, box)
			what := fmt.Sprintf("PortSay of Kind %d and %d bytes", kind, n)
			unchanged(what)
			was := bytes.Clone(again)
			spoil(b)
			unchanged("what " + what + " answered")
			spoil(pdu)
			if !bytes.Equal(again, was) {
				t.Errorf("%s shares memory", what)
			}
		}
	}
}
