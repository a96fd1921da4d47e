package tests

import (
	"bytes"
	"fmt"
	"math"
	"reflect"
	"slices"
	"testing"

	"loop.example/g00129/impl"
)

const mostWaited = 1000

// slowBoxAsk is BoxAsk as chapter 18 words it.
func slowBoxAsk(box impl.Box) (int, impl.Req, []byte) {
	if q, ok := slowGet(box.Pdu); ok {
		return box.Unit, q, nil
	}
	first, fault := 0, 1
	if len(box.Pdu) > 0 {
		first = int(box.Pdu[0])
	}
	if isAskKind(first) {
		fault = 3
	}
	return 0, impl.Req{}, []byte{byte(128 + first%128), byte(fault)}
}

// slowFirst is the first of these replies under this tag.
func slowFirst(list []impl.Reply, tag int) (impl.Reply, bool) {
	for _, r := range list {
		if r.Tag == tag {
			return r, true
		}
	}
	return impl.Reply{}, false
}

// slowWaited is the world behind what source asks, and the bytes that it is told: none, where that is nothing.
func slowWaited(w impl.World, source int, unit int, q impl.Req) (impl.World, []byte) {
	tag := w.F.Asked
	w, did := slowDo(w, askOf(source, unit, q))
	if !did {
		return w, nil
	}
	for n := 0; n <= mostWaited; n++ {
		if r, told := slowFirst(w.Replies, tag); told {
			return w, impl.PutResp(r.Resp)
		}
		if n < mostWaited {
			w = slowSettle(w, 1)
		}
	}
	return w, nil
}

// slowTalk is Talk as chapter 18 words it.
func slowTalk(w impl.World, source int, p impl.Port, b []byte) (impl.World, impl.Port, []byte) {
	if !slowWorld(w) || !impl.PortOk(p) {
		return w, p, nil
	}
	p, boxes := slowPortHear(p, b, w.F.Now)
	var said []byte
	for _, box := range boxes {
		unit, q, pdu := slowBoxAsk(box)
		if len(pdu) == 0 {
			w, pdu = slowWaited(w, source, unit, q)
		}
		if len(pdu) > 0 {
			said = append(said, portFrame(p.Kind, impl.Box{Number: box.Number, Unit: box.Unit, Pdu: pdu})...)
		}
	}
	return w, p, said
}

// talks wants of Talk what the chapter's words tell; what was told stays.
func talks(t *testing.T, what string, w impl.World, source int, p impl.Port, b []byte) (impl.World, impl.Port, []byte) {
	t.Helper()
	world, port, said := impl.Talk(w, source, p, b)
	wantWorld, wantPort, want := slowTalk(w, source, p, b)
	if !equalPort(port, wantPort) || !bytes.Equal(said, want) {
		t.Errorf("%s: Talk of %d, %v and %x is %v, %x, not %v, %x", what, source, p, b, port, said, wantPort, want)
	}
	if !equalWorld(world, wantWorld) {
		t.Errorf("%s: Talk of %v, %d, %v and %x makes %v, not %v", what, w, source, p, b, world, wantWorld)
	}
	keepsTold(t, what, w, world)
	return world, port, said
}

// says wants that Talk says just these boxes.
func says(t *testing.T, what string, w impl.World, source int, p impl.Port, b []byte, want ...impl.Box) (impl.World, impl.Port) {
	t.Helper()
	world, port, said := talks(t, what, w, source, p, b)
	if all := framesOf(p.Kind, want...); !bytes.Equal(said, all) {
		t.Errorf("%s: said is %x, not %x", what, said, all)
	}
	return world, port
}

// framesOf is the bytes of these boxes in this Kind, one behind the other.
func framesOf(kind int, boxes ...impl.Box) (b []byte) {
	for _, box := range boxes {
		b = append(b, portFrame(kind, box)...)
	}
	return b
}

func boxOf(number int, unit int, pdu ...byte) impl.Box {
	return impl.Box{Number: number, Unit: unit, Pdu: pdu}
}

// boxUnits are units of boxes, right ones and others.
var boxUnits = append([]int{-1, 0, 1, 2, 127, 128, 246, 247, 248, 255}, farNumbers...)

func TestBoxAskOfEachKind(t *testing.T) {
	for i, want := range rightQuestions() {
		pdu := slowPut(want)
		for _, unit := range []int{9, boxUnits[i%len(boxUnits)]} {
			if u, q, fault := impl.BoxAsk(impl.Box{Number: i, Unit: unit, Pdu: pdu}); u != unit || !equalReq(q, want) || len(fault) != 0 {
				t.Fatalf("BoxAsk of %d and %x is %d, %v, %x", unit, pdu, u, q, fault)
			}
		}
	}
	for _, number := range boxUnits {
		if u, q, fault := impl.BoxAsk(impl.Box{Number: number, Unit: 7, Pdu: []byte{3, 0, 1, 0, 2}}); u != 7 || !equalReq(q, impl.Req{Kind: 3, At: 1, N: 2}) || len(fault) != 0 {
			t.Errorf("under the Number %d it is %d, %v, %x", number, u, q, fault)
		}
	}
}

// isNoQuestion wants that BoxAsk tells this fault of these bytes; the chapter's words must tell the same.
func isNoQuestion(t *testing.T, pdu []byte, first byte, fault byte) {
	t.Helper()
	if _, _, slow := slowBoxAsk(impl.Box{Pdu: pdu}); !bytes.Equal(slow, []byte{first, fault}) {
		t.Fatalf("as worded, BoxAsk of %x is %x, not %x", pdu, slow, []byte{first, fault})
	}
	for _, unit := range boxUnits {
		if u, q, got := impl.BoxAsk(impl.Box{Number: 5, Unit: unit, Pdu: pdu}); u != 0 || !equalReq(q, impl.Req{}) || !bytes.Equal(got, []byte{first, fault}) {
			t.Errorf("BoxAsk of %d and %x is %d, %v, %x", unit, pdu, u, q, got)
		}
	}
}

func TestBoxAskOfNoBytes(t *testing.T) {
	isNoQuestion(t, nil, 128, 1)
	isNoQuestion(t, []byte{}, 128, 1)
	isNoQuestion(t, slowPut(askAt(3, 1, 2))[:0], 128, 1)
	isNoQuestion(t, []byte{0}, 128, 1)
}

// Each first byte, alone and ahead of others, that is no Kind is told FaultKind; the highest bit is set, or stays so.
func TestBoxAskOfEachFirstByte(t *testing.T) {
	for first := range 256 {
		for n := range 12 {
			for _, fill := range []byte{0, 1, 255} {
				pdu := append([]byte{byte(first)}, bytes.Repeat([]byte{fill}, n)...)
				if _, right := slowGet(pdu); right {
					continue
				}
				fault := byte(1)
				if isAskKind(first) {
					fault = 3
				}
				isNoQuestion(t, pdu, byte(first|128), fault)
			}
		}
	}
	for _, q := range rightQuestions()[:40] {
		pdu := slowPut(q)
		pdu[0] |= 128
		isNoQuestion(t, pdu, pdu[0], 1)
	}
}

// Right bytes of which the last one lacks, or behind which there is one more, and such that name what may not be asked.
func TestBoxAskOfBytesThatAreNotInForm(t *testing.T) {
	for _, k := range askKinds {
		for _, n := range []int{1, min(k.most, 9), k.most} {
			pdu, first := slowPut(askAt(k.kind, 8, n)), byte(k.kind|128)
			for _, cut := range []int{1, 2, len(pdu) / 2, len(pdu) - 2, len(pdu) - 1} {
				isNoQuestion(t, pdu[:cut], first, 3)
			}
			for _, more := range [][]byte{{0}, {1}, {255}, {0, 0}, pdu} {
				isNoQuestion(t, slices.Concat(pdu, more), first, 3)
			}
		}
	}
	for _, text := range []string{
		"0100000000", "01000007D1", "01F83107D0", "02FFFF0002", "0300000000", "030000007E", "04FFFF0002", "0500000001", "05000000FF", "050000FF01",
		"0F0000000000", "0F0000000802FF00", "0F000000070180", "1000000000" + "00", "100000000104000100", "10FFFF0002040001" + "0002", "17000000000000000102" + "0001", "1700000001FFFF000204" + "00010002",
	} {
		pdu, ok := impl.UnHex(text)
		if !ok {
			t.Fatal(text)
		}
		isNoQuestion(t, pdu, pdu[0]|128, 3)
	}
	for _, n := range []int{253, 254, 255, 256, 257, 600, 70000} {
		isNoQuestion(t, append([]byte{16}, make([]byte, n)...), 144, 3)
		isNoQuestion(t, append([]byte{17}, make([]byte, n)...), 145, 1)
	}
}

func TestBoxAskAsWorded(t *testing.T) {
	right, questions := rightQuestions(), 0
	for i := range 20000 {
		pdu := sampleBytes(uint32(i), i%14)
		if i%2 == 0 {
			pdu = slowPut(right[i*31%len(right)])
			pdu[i%len(pdu)] ^= byte(1 << (i / 7 % 8))
		}
		box := impl.Box{Unit: i % 300, Pdu: pdu}
		u, q, fault := impl.BoxAsk(box)
		if unit, want, told := slowBoxAsk(box); u != unit || !equalReq(q, want) || !bytes.Equal(fault, told) {
			t.Fatalf("BoxAsk of %v is %d, %v, %x, not %d, %v, %x", box, u, q, fault, unit, want, told)
		}
		if len(fault) == 0 {
			questions++
		} else if a, code := impl.GetResp(fault); (code == impl.PduGood) != isAskKind(int(fault[0])-128) || a.Fault != 0 && a.Fault != int(fault[1]) {
			t.Fatalf("of the fault %x, told of %x, GetResp is %v, %d", fault, pdu, a, code)
		}
	}
	if questions < 3000 {
		t.Errorf("%d questions", questions)
	}
}

func TestBoxTellOfEachAnswer(t *testing.T) {
	for i, a := range append(rightTold(), rightFaults()...) {
		number, unit := boxUnits[i%len(boxUnits)], boxUnits[i/3%len(boxUnits)]
		want := impl.Box{Number: number, Unit: unit, Pdu: slowTell(a)}
		for _, pdu := range [][]byte{nil, {3, 0, 1, 0, 2}, sampleBytes(1, 300)} {
			if got := impl.BoxTell(impl.Box{Number: number, Unit: unit, Pdu: pdu}, a); !equalBox(got, want) {
				t.Fatalf("BoxTell of %d, %d, %x and %v is %v, not %v", number, unit, pdu, a, got, want)
			}
		}
	}
}

// wrongTold gives answers that are not right, of each Kind and of none.
func wrongTold() []impl.Resp {
	list := []impl.Resp{{}, {Fault: 1}, {Kind: 7, Fault: 1}, {Kind: 131, Fault: 2}, {Kind: -3, Fault: 2}, {Kind: 3}, {Kind: 3, Words: []int{}}}
	for _, k := range tellKinds {
		right := tellOf(k, 7, k.least)
		for _, fault := range noFaults {
			list = append(list, impl.Resp{Kind: k.kind, Fault: fault})
		}
		for _, edit := range []func(*impl.Resp){
			func(a *impl.Resp) { a.Fault = 2 },
			func(a *impl.Resp) { a.Kind += 128 },
			func(a *impl.Resp) { a.Kind = 7 },
			func(a *impl.Resp) { a.Words = append(a.Words, 1, 2, 3, 65536) },
			func(a *impl.Resp) { a.Bits = append(a.Bits, true) },
			func(a *impl.Resp) { a.At = -1 },
			func(a *impl.Resp) { a.N = 65536 },
		} {
			wrong := cloneResp(right)
			edit(&wrong)
			list = append(list, wrong)
		}
		list = append(list, tellOf(k, 65536, k.least), tellOf(k, 7, k.most+k.step))
	}
	return slices.DeleteFunc(list, impl.RespOk)
}

func TestBoxTellOfWhatIsNotRight(t *testing.T) {
	list := wrongTold()
	if len(list) < 200 {
		t.Fatalf("%d answers", len(list))
	}
	for i, a := range list {
		number, unit := boxUnits[i%len(boxUnits)], boxUnits[i/3%len(boxUnits)]
		if got := impl.BoxTell(impl.Box{Number: number, Unit: unit, Pdu: []byte{3, 0, 1, 0, 2}}, a); !equalBox(got, impl.Box{Number: number, Unit: unit}) {
			t.Errorf("BoxTell of %d, %d and %v is %v", number, unit, a, got)
		}
	}
}

// A question goes in, and the answer of its device comes out; what is told is a box that a master's port says.
func TestWhatIsAskedIsTold(t *testing.T) {
	d := sampleDevice(18, 64, 64, 64, 64)
	for _, q := range rightQuestions() {
		box := impl.Box{Number: 77, Unit: 200, Pdu: slowPut(q)}
		unit, asked, fault := impl.BoxAsk(box)
		_, a := impl.Serve(d, asked)
		told := impl.BoxTell(box, a)
		if back, code := impl.GetResp(told.Pdu); unit != 200 || len(fault) != 0 || code != impl.PduGood || !impl.Suits(q, back) || told.Number != 77 || told.Unit != 200 {
			t.Fatalf("of %v, %v is told", q, told)
		}
	}
}

// masterWorld gives a world with devices behind unit 1 at three ports, one of which is not there.
func masterWorld(t *testing.T, wait int, tries int) impl.World {
	t.Helper()
	rules := []impl.Rule{{Unit: 1, Space: 2, Lo: 0, Hi: 9, To: 5}, {Unit: 1, Space: 2, Lo: 10, Hi: 19, Port: 1, To: 6, Shift: -10}, {Unit: 1, Space: 2, Lo: 100, Hi: 109, Port: 2, To: 7}, {Unit: 255 - 8, Space: 0, Lo: 0, Hi: 65535, To: 5}}
	w, ok := impl.WorldNew(impl.Config{Wait: wait, Tries: tries, Rules: rules}, []impl.Post{{Unit: 5, D: impl.DeviceNew(10)}, {Port: 1, Unit: 6, D: impl.DeviceNew(10)}})
	if !ok {
		t.Fatal("no world")
	}
	return w
}

// masterPort gives a port of this Kind that waits for long where it waits.
func masterPort(kind int) impl.Port {
	if kind == impl.PortRtu {
		return impl.PortNew(kind, 3)
	}
	return impl.PortNew(kind, 1000)
}

func TestTalkOfNoFrame(t *testing.T) {
	w := masterWorld(t, 3, 1)
	frame := portFrame(impl.PortStream, boxOf(7, 1, 3, 0, 2, 0, 1))
	for _, kind := range portKinds {
		for _, b := range [][]byte{nil, {}, {0}, {':'}, {10}, frame[:1], frame[:6], frame[:len(frame)-1], []byte(":0103000200"), []byte(":0103\r\n:010300020001FA\r\n"), frameOf(1, []byte{3, 0, 2, 0, 1}), {1, 2, 3, 4}, make([]byte, 700)} {
			got, _ := says(t, "no frame", w, 3, masterPort(kind), b)
			if !equalWorld(got, w) {
				t.Errorf("%x at Kind %d moves the world to %v", b, kind, got)
			}
		}
	}
}

// What ends is told of, also where no frame is good: the port that comes back has counted it.
func TestTalkHandsBackThePort(t *testing.T) {
	w := masterWorld(t, 3, 1)
	for _, k := range []struct {
		kind   int
		text   string
		errors int
		want   impl.Port
	}{
		{2, ":01\r\n:0103\r\n:", 2, asciiOf(impl.Ascii{Buf: []byte(":"), Open: true, Wait: 1000})},
		{2, ":010300020001F9\r\nxx", 0, asciiOf(impl.Ascii{Wait: 1000})},
		{3, "\x00\x01\x00\x00\x00\x02\x01\x07\x00", 0, streamOf(impl.Stream{Buf: []byte{0}})},
		{3, "\x00\x01\x00\x00\x00\x02\x01\x07\x00\x01\x01", 1, streamOf(impl.Stream{Shut: true})},
		{1, "\x01\x02", 0, rtuOf(impl.Rtu{Buf: []byte{1, 2}, Half: 2, Whole: 3})},
	} {
		if _, p, _ := talks(t, "the port", w, 0, masterPort(k.kind), []byte(k.text)); !equalPort(p, withErrors(k.want, k.errors)) {
			t.Errorf("of %q it is %v, not %v with %d errors", k.text, p, k.want, k.errors)
		}
	}
	// frames ahead of what shuts a stream are answered, those behind it are not
	b := slices.Concat(framesOf(3, boxOf(1, 1, 8), boxOf(2, 1, 6, 0, 2, 1, 44)), []byte{0, 0, 1}, framesOf(3, boxOf(3, 1, 8)))
	w, p := says(t, "shut", w, 0, masterPort(3), b, boxOf(1, 1, 136, 1), boxOf(2, 1, 6, 0, 2, 1, 44))
	if !p.S.Shut || p.Errors != 1 || w.Posts[0].D.Holding[2] != 300 {
		t.Errorf("%v, %v", p, w)
	}
	says(t, "shut before", w, 0, p, framesOf(3, boxOf(3, 1, 8)))
}

// One question: it is open, its part goes to its device, and what comes back is said, at the ports of two kinds at once.
func TestTalkOfOneFrame(t *testing.T) {
	for _, kind := range []int{2, 3} {
		w := masterWorld(t, 3, 1)
		w, p := says(t, "written", w, 8, masterPort(kind), framesOf(kind, boxOf(7, 1, 6, 0, 2, 1, 44)), boxOf(7, 1, 6, 0, 2, 1, 44))
		if w.F.Now != 1 || len(w.Replies) != 1 || w.Replies[0].Source != 8 || w.Replies[0].Tag != 0 || w.Posts[0].D.Holding[2] != 300 || !impl.Quiet(w) {
			t.Errorf("written: %v", w)
		}
		w, p = says(t, "read", w, 9, p, framesOf(kind, boxOf(65535, 1, 3, 0, 2, 0, 1)), boxOf(65535, 1, 3, 2, 1, 44))
		w, p = says(t, "read of two devices", w, 9, p, framesOf(kind, boxOf(0, 1, 3, 0, 9, 0, 2)), boxOf(0, 1, 3, 4, 0, 0, 0, 0))
		if w.F.Now != 3 || len(w.Replies) != 3 || len(w.Served) != 4 || w.F.Asked != 3 {
			t.Errorf("read: %v", w)
		}
		w, _ = says(t, "coils", w, 9, p, framesOf(kind, boxOf(1, 247, 1, 0, 0, 0, 3)), boxOf(1, 247, 1, 1, 0))
		if !equalPort(p, masterPort(kind)) && kind == 3 || impl.Safe(w) != 0 {
			t.Errorf("%v, %v", p, w)
		}
	}
}

// At a port without digits a frame ends by a silence: what is said comes with the bytes behind that.
func TestTalkOfRtuFrames(t *testing.T) {
	w, p := masterWorld(t, 3, 1), masterPort(1)
	write, read := boxOf(0, 1, 6, 0, 2, 1, 44), boxOf(0, 1, 3, 0, 2, 0, 1)
	w, p = says(t, "written", w, 4, p, framesOf(1, write))
	if w.F.Asked != 0 || len(p.R.Buf) != 8 {
		t.Fatalf("heard too soon: %v, %v", w, p)
	}
	soon := impl.Settle(w, 2)
	if got, bad := says(t, "too soon", soon, 4, p, framesOf(1, read)); !bad.R.Bad || got.F.Asked != 0 {
		t.Errorf("behind a gap: %v, %v", got, bad)
	}
	w = impl.Settle(w, 3)
	if got, next := says(t, "no bytes", w, 4, p, nil); !equalPort(next, p) || got.F.Asked != 0 {
		t.Errorf("of no bytes: %v, %v", got, next)
	}
	w, p = says(t, "read", w, 4, p, framesOf(1, read), write)
	if w.F.Now != 4 || p.R.Last != 3 || w.Posts[0].D.Holding[2] != 300 {
		t.Errorf("%v, %v", w, p)
	}
	w = impl.Settle(w, 2)
	w, p = says(t, "none", w, 5, p, []byte{1}, boxOf(0, 1, 3, 2, 1, 44))
	w, p = says(t, "short", impl.Settle(w, 3), 5, p, framesOf(1, boxOf(0, 9, 7)))
	w, p = says(t, "no kind", impl.Settle(w, 3), 5, p, framesOf(1, boxOf(0, 9, 3)), boxOf(0, 9, 135, 1))
	w, p = says(t, "no form", impl.Settle(w, 3), 5, p, []byte{0}, boxOf(0, 9, 131, 3))
	if p.Errors != 1 || len(w.Replies) != 2 || w.Replies[0].Source != 4 || w.Replies[1].Source != 5 {
		t.Errorf("%v, %v", w, p)
	}
}

// mixedFrames are questions and what is none, with what masterWorld tells to them.
func mixedFrames() (asked []impl.Box, told []impl.Box) {
	for _, k := range []struct{ asked, told impl.Box }{
		{boxOf(9, 1, 8), boxOf(9, 1, 136, 1)},
		{boxOf(7, 1, 6, 0, 2, 1, 44), boxOf(7, 1, 6, 0, 2, 1, 44)},
		{boxOf(7, 0, 0), boxOf(7, 0, 128, 1)},
		{boxOf(8, 1, 3, 0, 2, 0, 1), boxOf(8, 1, 3, 2, 1, 44)},
		{boxOf(8, 1, 3, 0, 2, 0), boxOf(8, 1, 131, 3)},
		{boxOf(0, 1, 3, 0, 2, 0, 1, 0), boxOf(0, 1, 131, 3)},
		{boxOf(1, 2, 3, 0, 2, 0, 1), boxOf(1, 2, 131, 10)},
		{boxOf(2, 0, 3, 0, 2, 0, 1), boxOf(2, 0, 131, 10)},
		{boxOf(3, 255, 3, 0, 2, 0, 1), boxOf(3, 255, 131, 10)},
		{boxOf(4, 1, 3, 0, 20, 0, 1), boxOf(4, 1, 131, 2)},
		{boxOf(5, 1, 16, 0, 8, 0, 3, 6, 0, 1, 0, 2, 0, 3), boxOf(5, 1, 16, 0, 8, 0, 3)},
		{boxOf(6, 1, 131, 0, 2, 0, 1), boxOf(6, 1, 131, 1)},
		{boxOf(65535, 1, 3, 0, 7, 0, 5), boxOf(65535, 1, 3, 10, 0, 0, 0, 1, 0, 2, 0, 3, 0, 0)},
		{boxOf(258, 1, 3, 0, 100, 0, 1), boxOf(258, 1, 131, 11)},
		{boxOf(259, 247, 5, 0, 3, 255, 0), boxOf(259, 247, 5, 0, 3, 255, 0)},
		{boxOf(260, 247, 1, 0, 0, 0, 9), boxOf(260, 247, 1, 2, 8, 0)},
		{boxOf(261, 247, 1, 0, 9, 0, 2), boxOf(261, 247, 129, 2)},
		{boxOf(262, 1, 22, 0, 2, 255, 0, 0, 9), boxOf(262, 1, 22, 0, 2, 255, 0, 0, 9)},
		{boxOf(263, 1, 23, 0, 2, 0, 1, 0, 2, 0, 1, 2, 0, 5), boxOf(263, 1, 23, 2, 0, 5)},
		{boxOf(264, 1, 23, 0, 2), boxOf(264, 1, 151, 3)},
	} {
		asked, told = append(asked, k.asked), append(told, k.told)
	}
	return asked, told
}

func TestTalkOfSeveralFrames(t *testing.T) {
	asked, told := mixedFrames()
	for _, kind := range []int{2, 3} {
		for n := range len(asked) + 1 {
			w, p := says(t, "several", masterWorld(t, 3, 1), 6, masterPort(kind), framesOf(kind, asked[:n]...), told[:n]...)
			if impl.Safe(w) != 0 || !impl.Quiet(w) || p.Errors != 0 {
				t.Errorf("%d frames: %v, %v", n, w, p)
			}
			for i, r := range w.Replies {
				if r.Tag != i || r.Source != 6 {
					t.Errorf("%d frames: the reply %d is %v", n, i, r)
				}
			}
		}
	}
}

// A frame at a time, and all at once, make the same: what is said, and the world.
func TestTalkFrameByFrame(t *testing.T) {
	asked, told := mixedFrames()
	for _, kind := range []int{2, 3} {
		w, p := masterWorld(t, 3, 1), masterPort(kind)
		whole, _, all := impl.Talk(w, 6, p, framesOf(kind, asked...))
		var each []byte
		for i, box := range asked {
			w, p = says(t, "one frame", w, 6, p, portFrame(kind, box), told[i])
			each = append(each, portFrame(kind, told[i])...)
		}
		if !bytes.Equal(all, each) || !equalWorld(w, whole) {
			t.Errorf("Kind %d: at once %x is said, frame by frame %x", kind, all, each)
		}
	}
}

// A frame that is cut goes on in the next call.
func TestTalkOfFramesInPieces(t *testing.T) {
	asked, _ := mixedFrames()
	for _, kind := range []int{2, 3} {
		b := framesOf(kind, asked[:16]...)
		whole, port, all := impl.Talk(masterWorld(t, 3, 1), 6, masterPort(kind), b)
		for cut := range len(b) + 1 {
			w, p, first := impl.Talk(masterWorld(t, 3, 1), 6, masterPort(kind), b[:cut])
			w, p, second := impl.Talk(w, 6, p, b[cut:])
			if p.A.Last = port.A.Last; !equalWorld(w, whole) || !equalPort(p, port) || !bytes.Equal(slices.Concat(first, second), all) {
				t.Fatalf("Kind %d, cut at %d: %x and %x are said, not %x", kind, cut, first, second, all)
			}
			if cut%5 == 0 {
				w, p, _ := talks(t, "the first piece", masterWorld(t, 3, 1), 6, masterPort(kind), b[:cut])
				talks(t, "the second piece", w, 6, p, b[cut:])
			}
		}
		w, p, said := masterWorld(t, 3, 1), masterPort(kind), []byte(nil)
		for i := range b {
			var more []byte
			w, p, more = impl.Talk(w, 6, p, b[i:i+1])
			said = append(said, more...)
		}
		if p.A.Last = port.A.Last; !equalWorld(w, whole) || !equalPort(p, port) || !bytes.Equal(said, all) {
			t.Errorf("Kind %d, byte by byte: %x is said, not %x", kind, said, all)
		}
	}
}

// What is heard is heard at the tick ahead of all rounds; the rounds of one call are a silence ahead of the next one.
func TestTalkHearsAtTheTickAheadOfRounds(t *testing.T) {
	slow, cut := portFrame(2, boxOf(0, 1, 3, 0, 100, 0, 1)), portFrame(2, boxOf(0, 1, 8))
	for _, k := range []struct{ wait, errors int }{{6, 1}, {7, 1}, {8, 0}, {9, 0}} {
		w, p := masterWorld(t, 3, 1), impl.PortNew(2, k.wait)
		w, p = says(t, "the first call", w, 0, p, slices.Concat(slow, cut[:4]), boxOf(0, 1, 131, 11))
		if w.F.Now != 7 || p.A.Last != 0 || !p.A.Open {
			t.Fatalf("waiting %d: %v, %v", k.wait, w, p)
		}
		_, _, said := talks(t, "the second call", w, 0, p, cut[4:])
		if _, p, _ = impl.Talk(w, 0, p, cut[4:]); p.Errors != k.errors || (len(said) == 0) != (k.errors == 1) || p.A.Last != 7 && k.errors == 0 {
			t.Errorf("waiting %d: %x is said, %v", k.wait, said, p)
		}
	}
	for _, now := range []int{0, 1, 999, 1<<31 - 1, 1 << 31, lastTick - 1, lastTick} {
		w := masterWorld(t, 3, 1)
		w.F.Now = now
		w, p := says(t, "at any tick", w, 0, masterPort(2), slow, boxOf(0, 1, 131, 11))
		if p.A.Last != now || w.F.Now != later(now, 7) {
			t.Errorf("from %d on: %v, %d", now, p, w.F.Now)
		}
	}
}

// A unit without a rule is told at once, without a round.
func TestTalkOfAUnitWithoutARule(t *testing.T) {
	for unit := range 256 {
		if unit == 1 || unit == 247 {
			continue
		}
		for _, kind := range []int{2, 3} {
			w, _ := says(t, "no path", masterWorld(t, 3, 1), 7, masterPort(kind), portFrame(kind, boxOf(unit*3, unit, 4, 0, 2, 0, 1)), boxOf(unit*3, unit, 132, 10))
			if w.F.Now != 0 || w.F.Asked != 1 || len(w.Replies) != 1 || w.Replies[0].Source != 7 {
				t.Errorf("the unit %d: %v", unit, w)
			}
		}
	}
}

// A device that is not there is waited for as long as it is asked; FaultTarget is said then.
func TestTalkOfADeviceThatIsNotThere(t *testing.T) {
	for _, k := range []struct{ wait, tries int }{{1, 0}, {1, 1}, {3, 1}, {100, 0}, {100, 5}} {
		w, _ := says(t, "not there", masterWorld(t, k.wait, k.tries), 0, masterPort(3), portFrame(3, boxOf(3, 1, 3, 0, 100, 0, 1)), boxOf(3, 1, 131, 11))
		if w.F.Now != k.wait*(k.tries+1)+1 || w.F.Sent != k.tries+1 || len(w.Served) != 0 {
			t.Errorf("wait %d, tries %d: %v", k.wait, k.tries, w)
		}
	}
	// one part of two is told: the device that is there has done its part
	rules := []impl.Rule{{Unit: 1, Space: 2, Lo: 0, Hi: 9, To: 5}, {Unit: 1, Space: 2, Lo: 10, Hi: 19, Port: 1, To: 6}}
	w, _ := impl.WorldNew(impl.Config{Wait: 2, Rules: rules}, []impl.Post{{Unit: 5, D: impl.DeviceNew(10)}})
	w, _ = says(t, "one of two", w, 0, masterPort(3), portFrame(3, boxOf(3, 1, 16, 0, 9, 0, 2, 4, 0, 7, 0, 8)), boxOf(3, 1, 144, 11))
	if w.Posts[0].D.Holding[9] != 7 || len(w.Served) != 1 || w.F.Now != 3 {
		t.Errorf("one of two: %v", w)
	}
}

// A source beyond what is allowed asks nothing: nothing is said, and no round goes by; what is no question is told all the same.
func TestTalkOfEachSource(t *testing.T) {
	asked, told := mixedFrames()
	var noQuestions []impl.Box
	for i, box := range asked {
		if _, right := slowGet(box.Pdu); !right {
			noQuestions = append(noQuestions, told[i])
		}
	}
	if len(noQuestions) != 6 {
		t.Fatalf("%v", noQuestions)
	}
	for _, kind := range []int{2, 3} {
		for _, source := range []int{0, 1, 7, 999999999, 1000000000, 65536, 1 << 16} {
			w, _ := says(t, "a source", masterWorld(t, 3, 1), source, masterPort(kind), framesOf(kind, asked...), told...)
			if !slices.ContainsFunc(w.Replies, func(r impl.Reply) bool { return r.Source == source }) {
				t.Errorf("the source %d: %v", source, w.Replies)
			}
		}
		for _, source := range []int{-1, -2, math.MinInt, math.MinInt + 1, 1000000001, 1000000002, 1 << 32, math.MaxInt} {
			was := masterWorld(t, 3, 1)
			if w, _ := says(t, "no source", was, source, masterPort(kind), framesOf(kind, asked...), noQuestions...); !equalWorld(w, was) {
				t.Errorf("the source %d: %v", source, w)
			}
		}
	}
}

// Where Asked is at its most, what would only be opened does nothing; what is told at once has its Tag, and is said.
func TestTalkWhereAskedIsAtItsMost(t *testing.T) {
	was := masterWorld(t, 3, 1)
	was.F.Asked = 1000000000
	b := framesOf(3, boxOf(1, 1, 3, 0, 2, 0, 1), boxOf(2, 2, 3, 0, 2, 0, 1), boxOf(3, 1, 3, 0, 100, 0, 1), boxOf(4, 1, 7))
	w, _ := says(t, "at its most", was, 0, masterPort(3), b, boxOf(2, 2, 131, 10), boxOf(4, 1, 135, 1))
	if len(w.Replies) != 1 || w.F.Now != 0 || w.F.Replied != 1 || len(w.F.Open.List) != 0 {
		t.Errorf("at its most: %v", w)
	}
	was.F.Asked--
	w, _ = says(t, "one below", was, 0, masterPort(3), b, boxOf(1, 1, 3, 2, 0, 0), boxOf(2, 2, 131, 10), boxOf(4, 1, 135, 1))
	if len(w.Replies) != 2 || w.F.Asked != 1000000000 || w.F.Now != 1 {
		t.Errorf("one below: %v", w)
	}
	// where the next Id would be one too many, nothing is opened, and that is told
	was.F.Open.Next = 1000000000
	says(t, "the last Id", was, 0, masterPort(3), b[:12], boxOf(1, 1, 131, 6))
}

// Of several replies under one Tag, which no world that WorldNew made has, the first one counts.
func TestTalkOfATagThatIsThere(t *testing.T) {
	was := masterWorld(t, 3, 1)
	q := impl.Req{Kind: 3, At: 2, N: 1}
	was.Replies = []impl.Reply{{Tag: 9, Req: q}, {Tag: 0, Req: q, Resp: impl.Resp{Kind: 3, Words: []int{300}}}, {Tag: 0, Req: q, Resp: impl.FaultOf(q, 4)}, {Tag: 1, Req: q, Resp: impl.Resp{Kind: 3, Fault: 256}}}
	w, _ := says(t, "there", was, 0, masterPort(3), framesOf(3, boxOf(5, 1, 3, 0, 2, 0, 1)), boxOf(5, 1, 3, 2, 1, 44))
	if len(w.F.Open.List) != 1 || w.F.Now != 0 {
		t.Errorf("there: %v", w)
	}
	w, _ = says(t, "told at once", was, 0, masterPort(3), framesOf(3, boxOf(5, 2, 3, 0, 2, 0, 1)), boxOf(5, 2, 3, 2, 1, 44))
	if len(w.Replies) != 5 || w.F.Now != 0 {
		t.Errorf("told at once: %v", w)
	}
	// what is no answer is no frame
	w, _ = says(t, "no answer", w, 0, masterPort(3), framesOf(3, boxOf(5, 1, 3, 0, 2, 0, 1)))
	if len(w.F.Open.List) != 1 || w.F.Now != 0 {
		t.Errorf("no answer: %v", w)
	}
	says(t, "the next Tag", w, 0, masterPort(3), framesOf(3, boxOf(5, 1, 3, 0, 2, 0, 1)), boxOf(5, 1, 3, 2, 0, 0))
}

// queued gives a world in which n questions wait for a device that is not there, and one that is there besides.
func queued(t *testing.T, wait int, tries int, n int) impl.World {
	t.Helper()
	rules := []impl.Rule{ruleOf(2, 0, 63, 4, 50, 0), ruleOf(3, 0, 63, 5, 50, 0)}
	w, _ := impl.WorldNew(impl.Config{Wait: wait, Tries: tries, Rules: rules}, []impl.Post{postOf(4, 51), postOf(5, 50)})
	for i := range n {
		w = doAll(t, w, askOf(100+i, 9, askAt(3, i, 1)))
	}
	return w
}

// What is told in the last of 1000 rounds is said, what is told one round later is not.
func TestTalkWaitsForTheMostRounds(t *testing.T) {
	b := framesOf(3, boxOf(7, 9, 3, 0, 1, 0, 1))
	for _, k := range []struct{ wait, tries, ahead, ticks, rounds int }{
		{37, 2, 8, 0, 1000}, {100, 1, 4, 0, 1001}, {100, 1, 4, 1, 1000}, {37, 2, 8, 1, 999}, {100, 5, 0, 0, 601}, {100, 5, 1, 0, 1201}, {100, 5, 1, 200, 1001}, {100, 5, 1, 201, 1000}, {50, 1, 15, 600, 1001}, {50, 1, 15, 601, 1000},
	} {
		what := fmt.Sprint(k)
		was := impl.Settle(queued(t, k.wait, k.tries, k.ahead), k.ticks)
		told := boxOf(7, 9, 131, 11)
		if k.rounds > mostWaited {
			w, _ := says(t, what, was, 0, masterPort(3), b)
			if impl.TickGap(was.F.Now, w.F.Now) != mostWaited || len(w.F.Open.List) != 1 || len(w.Replies) != k.ahead {
				t.Errorf("%s: %v", what, w)
			}
			if next := impl.Settle(w, k.rounds-mostWaited); len(next.Replies) != k.ahead+1 || len(impl.Settle(w, k.rounds-mostWaited-1).Replies) != k.ahead {
				t.Errorf("%s: then told is %v", what, next.Replies)
			}
			// another question goes on in the same call; the first one is replied to then, and no longer said
			w, _ = says(t, what+", and another one", was, 0, masterPort(3), slices.Concat(b, framesOf(3, boxOf(8, 9, 3, 0, 2, 0, 1), boxOf(9, 9, 4, 0, 2, 0, 1))), boxOf(8, 9, 131, 11), impl.Box{Number: 9, Unit: 9, Pdu: slowTell(impl.Resp{Kind: 4, Words: postOf(5, 50).D.Words[2:3]})})
			if len(w.Replies) != k.ahead+3 {
				t.Errorf("%s: %v", what, w.Replies)
			}
			continue
		}
		w, _ := says(t, what, was, 0, masterPort(3), b, told)
		if impl.TickGap(was.F.Now, w.F.Now) != k.rounds || len(w.Replies) != k.ahead+1 || !impl.Quiet(w) {
			t.Errorf("%s: %v", what, w)
		}
	}
}

// Questions that are open ahead of the call go on in its rounds; what they are told is not said.
func TestTalkWhereOthersAreOpen(t *testing.T) {
	was := plays(t, "open", masterWorld(t, 3, 1), []impl.Event{
		askOf(4, 1, askAt(3, 100, 2)), askOf(5, 1, impl.Req{Kind: 6, At: 2, Words: []int{300}}), tickEvent, doubleAt(1), deliverAt(0), askOf(6, 1, askAt(3, 102, 1)), askOf(7, 1, askAt(3, 4, 9)),
	})
	if len(was.F.Open.List) != 4 {
		t.Fatalf("%v is open", was.F.Open)
	}
	w, p := says(t, "others are open", was, 8, masterPort(2), framesOf(2, boxOf(0, 1, 3, 0, 2, 0, 1)), boxOf(0, 1, 3, 2, 1, 44))
	if len(w.F.Open.List) != 2 || len(w.Replies) != 3 || w.Replies[2].Source != 8 || w.Replies[2].Tag != 4 {
		t.Errorf("others are open: %v", w)
	}
	w, p = says(t, "behind another one", w, 8, p, framesOf(2, boxOf(0, 1, 8), boxOf(0, 1, 3, 0, 103, 0, 1), boxOf(0, 1, 3, 0, 2, 0, 1)), boxOf(0, 1, 136, 1), boxOf(0, 1, 131, 11), boxOf(0, 1, 3, 2, 1, 44))
	if !impl.Quiet(w) || len(w.Replies) != 7 || w.F.Now != 20 {
		t.Errorf("behind another one: %v", w)
	}
	// sixteen are open: no more are taken, and that is told at once
	full := queued(t, 100, 5, 16)
	w, _ = says(t, "sixteen are open", full, 0, masterPort(2), framesOf(2, boxOf(0, 9, 4, 0, 2, 0, 1), boxOf(0, 8, 4, 0, 2, 0, 1)), boxOf(0, 9, 132, 6), boxOf(0, 8, 132, 10))
	if w.F.Now != 0 || len(w.F.Open.List) != 16 {
		t.Errorf("sixteen are open: %v", w)
	}
	// forty calls wait at one line: a question of eight parts more than there is room for
	calls := impl.World{F: waitingAt(63, 20, 20, 20, 20, 20, 22), Posts: was.Posts}
	says(t, "much waits", calls, 0, masterPort(2), framesOf(2, boxOf(0, 9, 3, 0, 2, 0, 1), boxOf(0, 9, 6, 0, 2, 0, 1)), boxOf(0, 9, 131, 6), boxOf(0, 9, 134, 6))
}

// A packet of another question, late or twice, is told to nobody else.
func TestTalkWhereMuchIsOnItsWay(t *testing.T) {
	for at := range 5 {
		w := masterWorld(t, 3, 1)
		w = plays(t, "on its way", w, []impl.Event{
			askOf(4, 1, impl.Req{Kind: 6, At: 2, Words: []int{300}}), tickEvent, doubleAt(0), doubleAt(0), deliverAt(0), doubleAt(2), doubleAt(2), deliverAt(at),
		})
		if len(w.Net) != 4 && len(w.Net) != 5 {
			t.Fatalf("%v is on its way", w.Net)
		}
		w, _ = says(t, "on its way", w, 5, masterPort(3), framesOf(3, boxOf(1, 1, 6, 0, 2, 0, 9), boxOf(2, 1, 3, 0, 2, 0, 1)), boxOf(1, 1, 6, 0, 2, 0, 9), boxOf(2, 1, 3, 2, 0, 9))
		if impl.Safe(w) != 0 || len(w.Replies) != 3 || w.Replies[0].Source != 4 {
			t.Errorf("on its way: %v", w)
		}
	}
}

// Beyond as much as a right world was told, neither a question nor a round does anything; what has come by then is said.
func TestTalkWhereItIsToldTooMuch(t *testing.T) {
	none, noRule, read := boxOf(1, 9, 7), boxOf(2, 8, 3, 0, 5, 0, 2), boxOf(3, 9, 3, 0, 5, 0, 2)
	noKind, noPath := boxOf(1, 9, 135, 1), boxOf(2, 8, 131, 10)
	all := framesOf(3, none, noRule, none, noRule, read, none)
	was := fullWorld(5000, 1)
	w, _ := says(t, "5000 replies", was, 0, masterPort(3), all, noKind, noPath, noKind, noKind)
	if len(w.Replies) != 5001 || w.F.Now != was.F.Now || w.F.Asked != was.F.Asked+1 {
		t.Errorf("5000 replies: %d, Now %d", len(w.Replies), w.F.Now)
	}
	was = fullWorld(4999, 1)
	w, _ = says(t, "4999 replies", was, 0, masterPort(3), all, noKind, noPath, noKind, noPath, noKind)
	if len(w.Replies) != 5001 || w.F.Now != was.F.Now || w.F.Asked != was.F.Asked+2 {
		t.Errorf("4999 replies: %d, Now %d", len(w.Replies), w.F.Now)
	}
	// served is too much in the first round: what is told in it is said, what is not told in it waits for nothing
	was = doAll(t, oneDevice())
	was.Served = slices.Repeat([]impl.Served{{Req: impl.Req{Kind: 3, N: 1}, Resp: impl.Resp{Kind: 3, Words: []int{1}}}}, mostTold)
	words := impl.Box{Number: 3, Unit: 9, Pdu: slowTell(impl.Resp{Kind: 3, Words: was.Posts[0].D.Holding[5:7]})}
	w, _ = says(t, "5000 served", was, 0, masterPort(3), framesOf(3, read, read, none), words, noKind)
	if len(w.Served) != 5001 || w.F.Asked != was.F.Asked+1 {
		t.Errorf("5000 served: %d, %v", len(w.Served), w.F)
	}
	was = doAll(t, was, askOf(1, 9, impl.Req{Kind: 3, At: 5, N: 1}))
	w, _ = says(t, "5000 served, and another one is asked first", was, 0, masterPort(3), framesOf(3, read, none), noKind)
	if len(w.Served) != 5001 || w.F.Now != was.F.Now+1 || len(w.F.Open.List) != 1 {
		t.Errorf("another one is asked first: %d, %v", len(w.Served), w.F)
	}
}

// A world that is not right, a port that is not, and both: all stays, and nothing is said.
func TestTalkOfWhatIsNotRight(t *testing.T) {
	stays := func(what string, w impl.World, p impl.Port, b []byte) {
		t.Helper()
		if world, port := says(t, what, w, 0, p, b); !equalWorld(world, w) || !equalPort(port, p) {
			t.Errorf("%s: %v and %v became %v and %v", what, w, p, world, port)
		}
	}
	frames := func(kind int) []byte {
		return framesOf(kind, boxOf(1, 9, 7), boxOf(2, 9, 3, 0, 5, 0, 2), boxOf(3, 8, 3, 0, 5, 0, 2))
	}
	wrong := wrongPorts()
	n := 0
	for what, list := range wrongWorlds() {
		for _, w := range list {
			n++
			kind := portKinds[n%3]
			stays(what, w, masterPort(kind), frames(kind))
			if n%7 == 0 {
				stays(what+", and the port", w, wrong[n%len(wrong)], frames(kind))
			}
		}
	}
	right := []impl.World{masterWorld(t, 3, 1), oneDevice(), plainWorld()}
	for i, p := range wrong {
		for _, kind := range portKinds {
			stays("the port", right[i%3], p, frames(kind))
		}
		stays("both", impl.World{}, p, frames(1+i%3))
	}
}

// A master has a port, at which it asks, and keeps what it hears there.
type master struct {
	w      impl.World
	source int
	p      impl.Port
	heard  []impl.Box
}

// talk hands in bytes, and hears what is said.
func (m *master) talk(t *testing.T, b []byte) {
	t.Helper()
	w, p, said := talks(t, fmt.Sprint("a master at Kind ", m.p.Kind), m.w, m.source, m.p, b)
	ear, boxes := slowPortHear(masterPort(m.p.Kind), said, 0)
	ear, more := slowPortWait(ear, 1000)
	if ear.Errors != 0 || len(ear.R.Buf)+len(ear.A.Buf)+len(ear.S.Buf) != 0 {
		t.Fatalf("said is %x, which is no frames", said)
	}
	m.w, m.p, m.heard = w, p, slices.Concat(m.heard, boxes, more)
}

// ask hands in these frames, n bytes at a time; where a silence must end them, it is let by.
func (m *master) ask(t *testing.T, n int, boxes []impl.Box) {
	t.Helper()
	if m.p.Kind != impl.PortRtu {
		for piece := range slices.Chunk(framesOf(m.p.Kind, boxes...), n) {
			m.talk(t, piece)
		}
		return
	}
	for _, box := range boxes {
		m.talk(t, portFrame(m.p.Kind, box))
		m.w = impl.Settle(m.w, m.p.R.Whole)
	}
	m.talk(t, []byte{0})
}

// isAnswered wants that each of these frames, asked in the world was, was answered in its turn: under its Number and to
// its unit, with the fault of what is no question, or what the reply under its tag tells.
func (m *master) isAnswered(t *testing.T, was impl.World, boxes []impl.Box) {
	t.Helper()
	if len(m.heard) != len(boxes) {
		t.Fatalf("Kind %d: of %d frames, %d are answered", m.p.Kind, len(boxes), len(m.heard))
	}
	tag := was.F.Asked
	for i, box := range boxes {
		got := m.heard[i]
		if want := heardBox(m.p.Kind, box); got.Number != want.Number || got.Unit != want.Unit {
			t.Fatalf("Kind %d: %v is answered by %v", m.p.Kind, box, got)
		}
		q, right := slowGet(box.Pdu)
		if !right {
			if _, _, fault := slowBoxAsk(box); !bytes.Equal(got.Pdu, fault) {
				t.Fatalf("Kind %d: %v is answered by %v", m.p.Kind, box, got)
			}
			continue
		}
		r, replied := slowFirst(m.w.Replies, tag)
		if !replied || r.Source != m.source || !equalReq(r.Req, q) || !impl.Suits(q, r.Resp) || !bytes.Equal(got.Pdu, slowTell(r.Resp)) {
			t.Fatalf("Kind %d: %v is answered by %v, and the reply under %d is %v", m.p.Kind, box, got, tag, r)
		}
		tag++
	}
	if m.w.F.Asked != tag || impl.Safe(m.w) != 0 {
		t.Errorf("Kind %d: %d were asked, not %d, and Safe is %d", m.p.Kind, m.w.F.Asked, tag, impl.Safe(m.w))
	}
}

// masterBoxes gives n frames: questions to unit 9 and to others, and what is none.
func masterBoxes(seed int, n int) (list []impl.Box) {
	for i, b := range sampleBytes(uint32(seed), n) {
		x := int(b)
		box := impl.Box{Number: (x*259 + seed*7 + i) % 65536, Unit: 9, Pdu: slowPut(deskAsk(x, i*7+seed))}
		if k := askKinds[x%10]; i%3 > 0 {
			box.Pdu = slowPut(askAt(k.kind, x%17, min(k.most, 1+i)))
		}
		switch x / 11 % 12 {
		case 0:
			box.Unit = x
		case 1:
			box.Pdu[0] ^= 1 << (x % 8)
		case 2:
			box.Pdu = box.Pdu[:1+x%(len(box.Pdu)-1)]
		case 3:
			box.Pdu = append(box.Pdu, b)
		case 4:
			box.Pdu = []byte{b}
		}
		list = append(list, box)
	}
	return list
}

// Masters at ports of each Kind, of worlds that WorldNew made and that events have moved, are answered frame by frame.
func TestMastersAreAnsweredFrameByFrame(t *testing.T) {
	did, faults, told := map[int]int{}, map[byte]int{}, 0
	for seed := range 45 {
		was := quietEvents(quietWorld(t, seed, []int{63, 63, seed * 5 % 64}[seed%3]), sampleBytes(uint32(seed+3100), 90+seed), did)
		if seed%3 > 0 {
			was = doAll(t, was, swapFor(quietRules(seed)...))
		}
		boxes := masterBoxes(seed+3200, 16)
		for _, kind := range portKinds {
			m := &master{w: was, source: seed * 1000, p: masterPort(kind)}
			m.ask(t, []int{1000, 7, 31}[seed/3%3], boxes)
			m.isAnswered(t, was, boxes)
			for _, box := range m.heard {
				if box.Pdu[0] >= 128 {
					faults[box.Pdu[1]]++
				} else {
					told++
				}
			}
		}
	}
	for _, fault := range []byte{1, 2, 3, 10, 11} {
		if faults[fault] < 10 {
			t.Errorf("the fault %d was said %d times", fault, faults[fault])
		}
	}
	if told < 500 {
		t.Errorf("%d answers, %v", told, faults)
	}
}

// Two masters take turns at one world, with events between: each is answered for itself.
func TestMastersTakeTurns(t *testing.T) {
	for seed := range 20 {
		w := deskWorld(t, seed)
		var masters []*master
		for i, kind := range []int{1 + seed%3, 1 + (seed+1)%3, 3} {
			masters = append(masters, &master{source: i, p: masterPort(kind)})
		}
		for turn := range 9 {
			w = impl.Play(w, eventsOf(sampleBytes(uint32(seed*9+turn+3300), 60)))
			m, boxes := masters[turn%3], masterBoxes(seed*9+turn+3400, 5)
			m.w, m.heard = w, nil
			if m.p.Kind == impl.PortRtu {
				// the byte that told the last frame of the turn before stands alone, and is no frame
				m.p = masterPort(impl.PortRtu)
			}
			m.ask(t, 50, boxes)
			m.isAnswered(t, w, boxes)
			w = m.w
		}
	}
}

func TestTalkOfAllWorlds(t *testing.T) {
	for i, w := range roundWorlds(t) {
		boxes := masterBoxes(i+3500, 6)
		for _, kind := range portKinds {
			p := masterPort(kind)
			for _, piece := range [][]byte{framesOf(kind, boxes...), framesOf(kind, boxes[0]), {1}} {
				w, p, _ = talks(t, fmt.Sprint("world ", i), w, i, p, piece)
				w = impl.Settle(w, 3)
			}
		}
	}
}

// Ports in each of their states are talked to.
func TestTalkOfAllPorts(t *testing.T) {
	w := masterWorld(t, 3, 1)
	w.F.Now = 104
	boxes, _ := mixedFrames()
	for i, p := range plainPorts() {
		for _, b := range [][]byte{nil, {7}, framesOf(p.Kind, boxes[i%5:i%5+4]...)} {
			talks(t, "a port", w, i, withErrors(p, (i*333335)%(mostErrors+1)), b)
		}
	}
}

func FuzzTalk(f *testing.F) {
	asked, _ := mixedFrames()
	for _, kind := range portKinds {
		f.Add(framesOf(kind, asked...), uint8(kind), uint8(7))
		f.Add(framesOf(kind, masterBoxes(kind, 9)...), uint8(kind), uint8(250))
	}
	for i, b := range sampleLists() {
		f.Add(b[:min(len(b), 200)], uint8(i), uint8(5*i))
	}
	f.Fuzz(func(t *testing.T, b []byte, kind uint8, seed uint8) {
		box := impl.Box{Number: int(seed), Unit: int(kind), Pdu: b}
		u, q, fault := impl.BoxAsk(box)
		if unit, want, told := slowBoxAsk(box); u != unit || !equalReq(q, want) || !bytes.Equal(fault, told) {
			t.Errorf("BoxAsk of %v is %d, %v, %x", box, u, q, fault)
		}
		b = b[:min(len(b), 300)]
		p, cut := masterPort(1+int(kind)%3), len(b)*int(seed)/256
		w, p, _ := talks(t, "a piece", quietWorld(t, int(seed), 63), int(seed), p, b[:cut])
		talks(t, "another piece", impl.Settle(w, int(seed)%5), int(seed), p, b[cut:])
		if pdu := b[:min(len(b), 253)]; len(pdu) > 0 {
			m := &master{w: quietWorld(t, int(seed), 63), p: p}
			m.p = masterPort(p.Kind)
			boxes := []impl.Box{{Number: int(seed), Unit: 9, Pdu: pdu}, {Unit: 9, Pdu: slowPut(deskAsk(int(seed), len(b)))}}
			m.ask(t, 1000, boxes)
			m.isAnswered(t, quietWorld(t, int(seed), 63), boxes)
		}
	})
}

// What the functions of chapter 18 are handed, and what they answer.
type (
	masterArgs struct {
		World  impl.World
		Source int
		Port   impl.Port
		Bytes  []byte
		Box    impl.Box
		Resp   impl.Resp
	}
	masterAnswer struct {
		World impl.World
		Port  impl.Port
		Bytes []byte
		Unit  int
		Req   impl.Req
		Box   impl.Box
	}
)

// masterAsks are the functions of chapter 18 by their names.
var masterAsks = map[string]func(masterArgs) masterAnswer{
	"BoxAsk": func(a masterArgs) (out masterAnswer) {
		out.Unit, out.Req, out.Bytes = impl.BoxAsk(a.Box)
		return out
	},
	"BoxTell": func(a masterArgs) masterAnswer { return masterAnswer{Box: impl.BoxTell(a.Box, a.Resp)} },
	"Talk": func(a masterArgs) (out masterAnswer) {
		out.World, out.Port, out.Bytes = impl.Talk(a.World, a.Source, a.Port, a.Bytes)
		return out
	},
}

// masterTalks gives what Talk is handed: right and wrong worlds and ports, bytes of several frames, of one and of none.
func masterTalks(t *testing.T) (list []masterArgs) {
	t.Helper()
	worlds := []impl.World{masterWorld(t, 3, 1), plainWorld(), oneDevice(), toldWorld(t), sharedWorld(3), {}}
	wrong := plainWorld()
	wrong.F.Asked = -1
	ports := append(fewPorts(), allThree()...)
	for i, w := range append(worlds, wrong) {
		for _, source := range []int{i, -1} {
			for _, kind := range portKinds {
				list = append(list, masterArgs{World: w, Source: source, Port: masterPort(kind), Bytes: framesOf(kind, masterBoxes(i+3600, 6)...)})
			}
			p := ports[i*5%len(ports)]
			list = append(list, masterArgs{World: w, Source: source, Port: p, Bytes: []byte{1, 2, 3}}, masterArgs{World: w, Source: source, Port: impl.Port{}, Bytes: []byte{1}})
		}
	}
	for i, p := range ports {
		list = append(list, masterArgs{World: worlds[0], Port: p, Bytes: framesOf(max(1, p.Kind), masterBoxes(i+3700, 2)...)})
	}
	return list
}

func TestMastersAnswerNewMemory(t *testing.T) {
	for i, a := range masterTalks(t) {
		sharesNothing(t, "Talk", a, masterAsks["Talk"])
		once, was := roomyOf(reflect.ValueOf(a)), roomyOf(reflect.ValueOf(a))
		masterAsks["Talk"](once.Interface().(masterArgs))
		if !sameWithRoom(once, was) {
			t.Errorf("Talk, %d: %v became %v", i, was, once)
		}
	}
	for i, q := range rightQuestions() {
		if i%5 != 0 {
			continue
		}
		pdu := slowPut(q)
		for _, cut := range []int{0, 1, len(pdu) - 1, len(pdu)} {
			a := masterArgs{Box: impl.Box{Number: i, Unit: 9, Pdu: pdu[:cut]}, Resp: fitting(q)}
			sharesNothing(t, "BoxAsk", a, masterAsks["BoxAsk"])
			sharesNothing(t, "BoxTell", a, masterAsks["BoxTell"])
			a.Resp = impl.Resp{Kind: q.Kind, Words: []int{-1}, Bits: []bool{true}}
			sharesNothing(t, "BoxTell", a, masterAsks["BoxTell"])
		}
	}
}

// What arguments share within themselves, or with each other, the answer does not.
func TestWhatMastersShare(t *testing.T) {
	digits := append(framesOf(2, masterBoxes(3800, 4)...), ':')
	for i := range askKinds {
		wrong := sharedWorld(i)
		wrong.F.Asked = -1
		for _, w := range []impl.World{sharedWorld(i), wrong} {
			for _, p := range []impl.Port{asciiOf(impl.Ascii{Buf: digits[len(digits)-1:], Open: true, Wait: 1000}), {Kind: 2, R: impl.Rtu{Buf: digits}, A: impl.Ascii{Buf: digits}, S: impl.Stream{Buf: digits}}} {
				staysApart(t, "Talk", masterArgs{World: w, Port: p, Bytes: digits}, masterAsks["Talk"])
			}
		}
	}
}

// The bytes that came may be written over: nothing of what was answered is there.
func TestMastersKeepNothingOfTheBytesThatCame(t *testing.T) {
	asked, _ := mixedFrames()
	for _, kind := range portKinds {
		b := framesOf(kind, asked...)
		b = append(b, b[:5]...)
		wantWorld, wantPort, want := slowTalk(masterWorld(t, 3, 1), 0, masterPort(kind), bytes.Clone(b))
		w, p, said := impl.Talk(masterWorld(t, 3, 1), 0, masterPort(kind), b)
		spoil(b)
		if !equalWorld(w, wantWorld) || !equalPort(p, wantPort) || !bytes.Equal(said, want) {
			t.Errorf("Kind %d shares memory with the bytes that came", kind)
		}
	}
}

// What is answered hangs on the arguments alone: asked again, and in another order, it is the same.
func TestMastersKeepNothing(t *testing.T) {
	all := masterTalks(t)
	for i, q := range rightQuestions()[:60] {
		all = append(all, masterArgs{Box: impl.Box{Number: i, Unit: i, Pdu: slowPut(q)}, Resp: fitting(q)}, masterArgs{Box: impl.Box{Number: i, Pdu: sampleBytes(uint32(i), i%9)}})
	}
	answers := func() (out []string) {
		for _, a := range all {
			out = append(out, fmt.Sprint(masterAsks["BoxAsk"](a), masterAsks["BoxTell"](a), masterAsks["Talk"](a)))
		}
		return out
	}
	first := answers()
	slices.Reverse(all)
	again := answers()
	slices.Reverse(first)
	if !slices.Equal(first, again) {
		t.Fatal("asked in another order, other things are answered")
	}
}
