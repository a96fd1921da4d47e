package tests

import (
	"math"
	"slices"
	"testing"

	"loop.example/g00129/impl"
)

// sampleDevice gives a device with so many places of each space, and mixed bits and words in them.
func sampleDevice(seed uint32, coils int, inputs int, holding int, words int) impl.Device {
	return impl.Device{
		Coils:   sampleBits(seed, coils),
		Inputs:  sampleBits(seed+1, inputs),
		Holding: sampleWords(seed+2, holding),
		Words:   sampleWords(seed+3, words),
	}
}

func cloneDevice(d impl.Device) impl.Device {
	return impl.Device{Coils: slices.Clone(d.Coils), Inputs: slices.Clone(d.Inputs), Holding: slices.Clone(d.Holding), Words: slices.Clone(d.Words)}
}

func equalDevice(a impl.Device, b impl.Device) bool {
	return slices.Equal(a.Coils, b.Coils) && slices.Equal(a.Inputs, b.Inputs) && slices.Equal(a.Holding, b.Holding) && slices.Equal(a.Words, b.Words)
}

// sizeOf is how many places of a space d has.
func sizeOf(d impl.Device, space int) int {
	return []int{len(d.Coils), len(d.Inputs), len(d.Holding), len(d.Words)}[space]
}

// spaceOf is the space that a kind is about.
func spaceOf(kind int) int {
	i := slices.IndexFunc(askKinds, func(k askKind) bool { return k.kind == kind })
	return askKinds[i].space
}

// rightDevices gives devices with none, one, some and the most places, alike in each space and not.
func rightDevices() []impl.Device {
	list := []impl.Device{{}, sampleDevice(40, 3, 5, 7, 9), sampleDevice(41, 9, 7, 5, 3), sampleDevice(42, 64, 1, 17, 0), sampleDevice(43, 0, 64, 1, 33)}
	for _, n := range []int{1, 2, 8, 63, 64} {
		list = append(list, sampleDevice(uint32(n), n, n, n, n))
	}
	for space := range 4 {
		sizes := []int{0, 0, 0, 0}
		sizes[space] = 64
		list = append(list, sampleDevice(44, sizes[0], sizes[1], sizes[2], sizes[3]))
	}
	return list
}

// wrongDevices gives devices with one place too many, and with words that are none.
func wrongDevices() []impl.Device {
	list := []impl.Device{sampleDevice(50, 65, 64, 64, 64), sampleDevice(51, 64, 65, 64, 64), sampleDevice(52, 64, 64, 65, 64), sampleDevice(53, 64, 64, 64, 65),
		sampleDevice(54, 65, 0, 0, 0), sampleDevice(55, 0, 65, 0, 0), sampleDevice(56, 0, 0, 65, 0), sampleDevice(57, 0, 0, 0, 65), sampleDevice(58, 1000, 1000, 1000, 1000)}
	for _, n := range []int{65536, 65537, -1, -2, 1 << 32, math.MaxInt, math.MinInt} {
		for _, i := range []int{0, 5, 63} {
			holding, words := sampleDevice(59, 64, 64, 64, 64), sampleDevice(60, 64, 64, 64, 64)
			holding.Holding[i], words.Words[i] = n, n
			list = append(list, holding, words)
		}
	}
	return list
}

// deviceQuestions gives right questions of every kind about the first places and those round the end of so many.
func deviceQuestions(size int) []impl.Req {
	var list []impl.Req
	for _, k := range askKinds {
		for _, at := range []int{0, 1, size / 2, size - 2, size - 1, size, size + 1, 65535} {
			for _, n := range []int{1, 2, 7, 8, 9, size - at, size - at + 1, size} {
				if n < 1 || n > k.most {
					continue
				}
				q := askAt(k.kind, at, n)
				q.WAt = 0
				if impl.ReqOk(q) {
					list = append(list, q)
				}
			}
		}
	}
	for _, at := range []int{0, 1, size - 1, size} {
		for _, wat := range []int{0, 1, 2, size - 1, size} {
			for _, n := range []int{1, 2, 3} {
				for _, w := range []int{1, 2, 3} {
					if q := bothAt(at, n, wat, w); impl.ReqOk(q) {
						list = append(list, q)
					}
				}
			}
		}
	}
	return list
}

// isThere tells whether a space of so many places has each of n from at on, asked one by one.
func isThere(size int, at int, n int) bool {
	for place := at; place < at+n; place++ {
		if place >= size {
			return false
		}
	}
	return true
}

// slowMask goes bit by bit: one that stays is the word's, another one is the one that is set.
func slowMask(word int, stays int, set int) int {
	out := 0
	for bit := 1; bit < 65536; bit *= 2 {
		from := set
		if stays/bit%2 == 1 {
			from = word
		}
		out += from / bit % 2 * bit
	}
	return out
}

// slowServe is what a right device tells to a right question, place by place as chapter 5 words it.
func slowServe(d impl.Device, q impl.Req) (impl.Device, impl.Resp) {
	d = cloneDevice(d)
	size := sizeOf(d, spaceOf(q.Kind))
	n := map[int]int{1: q.N, 2: q.N, 3: q.N, 4: q.N, 5: 1, 6: 1, 15: len(q.Bits), 16: len(q.Words), 22: 1, 23: q.N}[q.Kind]
	if !isThere(size, q.At, n) || q.Kind == 23 && !isThere(size, q.WAt, len(q.Words)) {
		return d, impl.Resp{Kind: q.Kind, Fault: 2}
	}
	a := fitting(q)
	switch q.Kind {
	case 5, 15:
		for i, bit := range q.Bits {
			d.Coils[q.At+i] = bit
		}
	case 6, 16:
		for i, word := range q.Words {
			d.Holding[q.At+i] = word
		}
	case 22:
		d.Holding[q.At] = slowMask(d.Holding[q.At], q.Words[0], q.Words[1])
	case 23:
		for i, word := range q.Words {
			d.Holding[q.WAt+i] = word
		}
	}
	slowRead(d, q, a)
	return d, a
}

// slowRead puts what d has now into an answer that is as long as q asks for.
func slowRead(d impl.Device, q impl.Req, a impl.Resp) {
	for i := range q.N {
		switch q.Kind {
		case 1:
			a.Bits[i] = d.Coils[q.At+i]
		case 2:
			a.Bits[i] = d.Inputs[q.At+i]
		case 3, 23:
			a.Words[i] = d.Holding[q.At+i]
		case 4:
			a.Words[i] = d.Words[q.At+i]
		}
	}
}

// serves wants that d, asked q, is this then and tells this.
func serves(t *testing.T, d impl.Device, q impl.Req, want impl.Device, told impl.Resp) {
	t.Helper()
	is, a := impl.Serve(d, q)
	if !equalDevice(is, want) {
		t.Errorf("Serve(%v, %v) leaves %v, not %v", d, q, is, want)
	}
	if !equalResp(a, told) {
		t.Errorf("Serve(%v, %v) tells %v, not %v", d, q, a, told)
	}
}

func TestDeviceNames(t *testing.T) {
	got := []int{impl.MaxPlaces, impl.FaultKind, impl.FaultAt, impl.FaultValue, impl.FaultDevice, impl.FaultBusy, impl.FaultPath, impl.FaultTarget}
	if want := []int{64, 1, 2, 3, 4, 6, 10, 11}; !slices.Equal(got, want) {
		t.Errorf("the constants are %v, not %v", got, want)
	}
}

func TestDeviceNew(t *testing.T) {
	for _, n := range []int{0, 1, 2, 7, 63, 64} {
		want := impl.Device{Coils: make([]bool, n), Inputs: make([]bool, n), Holding: make([]int, n), Words: make([]int, n)}
		if d := impl.DeviceNew(n); !equalDevice(d, want) || !impl.DeviceOk(d) {
			t.Errorf("DeviceNew(%d) is %v", n, d)
		}
	}
	for _, n := range []int{65, 66, 128, -1, -2, -64, 1 << 32, math.MaxInt, math.MaxInt - 1, math.MinInt, math.MinInt + 1} {
		if d := impl.DeviceNew(n); !equalDevice(d, impl.Device{}) || !impl.DeviceOk(d) {
			t.Errorf("DeviceNew(%d) is %v", n, d)
		}
	}
}

func TestDeviceOk(t *testing.T) {
	for _, d := range rightDevices() {
		if !impl.DeviceOk(d) {
			t.Errorf("%v is not DeviceOk", d)
		}
	}
	for _, d := range wrongDevices() {
		if impl.DeviceOk(d) {
			t.Errorf("%v is DeviceOk", d)
		}
	}
	for _, n := range []int{0, 1, 255, 256, 65534, 65535} {
		for _, d := range []impl.Device{{Holding: []int{n}}, {Words: []int{n}}, {Holding: []int{0, 0, n}}, {Words: []int{0, 0, n}}} {
			if !impl.DeviceOk(d) {
				t.Errorf("%v is not DeviceOk", d)
			}
		}
	}
	if !impl.DeviceOk(impl.Device{Coils: []bool{}, Inputs: make([]bool, 0, 99), Holding: []int{}, Words: make([]int, 0, 99)}) {
		t.Error("a device of empty lists is not DeviceOk")
	}
}

func TestServeKnown(t *testing.T) {
	d := impl.Device{Coils: []bool{true, false, true}, Inputs: []bool{false, true}, Holding: []int{10, 20, 30, 40}, Words: []int{500, 65535}}
	known := []struct {
		q    impl.Req
		told string
		is   impl.Device
	}{
		{impl.Req{Kind: impl.ReadCoils, N: 3}, "010105", d},
		{impl.Req{Kind: impl.ReadCoils, At: 1, N: 2}, "010102", d},
		{impl.Req{Kind: impl.ReadInputs, N: 2}, "020102", d},
		{impl.Req{Kind: impl.ReadHolding, At: 1, N: 2}, "03040014001E", d},
		{impl.Req{Kind: impl.ReadWords, N: 2}, "040401F4FFFF", d},
		{impl.Req{Kind: impl.WriteCoil, At: 1, Bits: []bool{true}}, "050001FF00", impl.Device{Coils: allBits(3), Inputs: d.Inputs, Holding: d.Holding, Words: d.Words}},
		{impl.Req{Kind: impl.WriteWord, At: 3, Words: []int{7}}, "0600030007", impl.Device{Coils: d.Coils, Inputs: d.Inputs, Holding: []int{10, 20, 30, 7}, Words: d.Words}},
		{impl.Req{Kind: impl.WriteCoils, At: 1, Bits: []bool{true, false}}, "0F00010002", impl.Device{Coils: []bool{true, true, false}, Inputs: d.Inputs, Holding: d.Holding, Words: d.Words}},
		{impl.Req{Kind: impl.WriteWords, At: 2, Words: []int{3, 4}}, "1000020002", impl.Device{Coils: d.Coils, Inputs: d.Inputs, Holding: []int{10, 20, 3, 4}, Words: d.Words}},
		{impl.Req{Kind: impl.MaskWord, At: 1, Words: []int{0xf2, 0x25}}, "16000100F20025", impl.Device{Coils: d.Coils, Inputs: d.Inputs, Holding: []int{10, 0x15, 30, 40}, Words: d.Words}},
		{impl.Req{Kind: impl.ReadWrite, At: 0, N: 3, WAt: 2, Words: []int{8, 9}}, "1706000A00140008", impl.Device{Coils: d.Coils, Inputs: d.Inputs, Holding: []int{10, 20, 8, 9}, Words: d.Words}},
		{impl.Req{Kind: impl.ReadCoils, At: 1, N: 3}, "8102", d},
		{impl.Req{Kind: impl.ReadWords, At: 2, N: 1}, "8402", d},
		{impl.Req{Kind: impl.WriteCoil, At: 3, Bits: []bool{true}}, "8502", d},
		{impl.Req{Kind: impl.WriteWords, At: 3, Words: []int{3, 4}}, "9002", d},
	}
	for _, k := range known {
		is, a := impl.Serve(d, k.q)
		if told := impl.Hex(impl.PutResp(a)); told != k.told || !equalDevice(is, k.is) {
			t.Errorf("Serve(%v) is %v, %s, not %v, %s", k.q, is, told, k.is, k.told)
		}
	}
}

func TestServeAsWorded(t *testing.T) {
	for _, d := range rightDevices() {
		for _, size := range []int{0, 1, 7, 64, len(d.Coils), len(d.Holding), len(d.Words)} {
			for _, q := range deviceQuestions(size) {
				want, told := slowServe(d, q)
				serves(t, d, q, want, told)
			}
		}
	}
}

// Each kind at the edges of its space, while every other space has the most places, or none.
func TestEachKindLooksAtItsOwnSpace(t *testing.T) {
	for _, k := range askKinds {
		for _, size := range []int{0, 1, 2, 9, 64} {
			for _, others := range []int{0, 3, 64} {
				sizes := []int{others, others, others, others}
				sizes[k.space] = size
				d := sampleDevice(70, sizes[0], sizes[1], sizes[2], sizes[3])
				for _, n := range []int{1, 2, size} {
					if n > k.most || n < 1 {
						continue
					}
					for at := 0; at <= size+1; at++ {
						q := askAt(k.kind, at, n)
						q.WAt = 0
						_, a := impl.Serve(d, q)
						if there := at+n <= size; there != (a.Fault == 0) || !there && a.Fault != impl.FaultAt {
							t.Errorf("Serve(%v, %v) tells %v", d, q, a)
						}
					}
				}
			}
		}
	}
}

func TestReadsTheLastPlaces(t *testing.T) {
	d := sampleDevice(71, 64, 64, 64, 64)
	for n := 1; n <= 64; n++ {
		for _, kind := range []int{1, 2, 3, 4} {
			q := impl.Req{Kind: kind, At: 64 - n, N: n}
			want, told := slowServe(d, q)
			serves(t, d, q, want, told)
			q.At++
			serves(t, d, q, d, impl.Resp{Kind: kind, Fault: impl.FaultAt})
		}
	}
	for _, kind := range []int{1, 2, 3, 4} {
		for _, q := range []impl.Req{{Kind: kind, N: 65}, {Kind: kind, N: 125}, {Kind: kind, At: 64, N: 1}, {Kind: kind, At: 65535, N: 1}, {Kind: kind, At: 65536 - 125, N: 125}} {
			serves(t, d, q, d, impl.Resp{Kind: kind, Fault: impl.FaultAt})
		}
	}
	serves(t, d, impl.Req{Kind: 1, N: 2000}, d, impl.Resp{Kind: 1, Fault: impl.FaultAt})
	serves(t, d, impl.Req{Kind: 15, Bits: allBits(1968)}, d, impl.Resp{Kind: 15, Fault: impl.FaultAt})
	serves(t, d, impl.Req{Kind: 16, Words: make([]int, 123)}, d, impl.Resp{Kind: 16, Fault: impl.FaultAt})
}

func TestBitsBehindThoseAskedForAreFalse(t *testing.T) {
	for _, kind := range []int{1, 2} {
		for _, size := range []int{1, 8, 20, 64} {
			d := impl.Device{Coils: allBits(size), Inputs: allBits(size)}
			for at := range size {
				for n := 1; n <= size-at; n++ {
					_, a := impl.Serve(d, impl.Req{Kind: kind, At: at, N: n})
					want := append(allBits(n), make([]bool, (8-n%8)%8)...)
					if !equalResp(a, impl.Resp{Kind: kind, Bits: want}) {
						t.Fatalf("%d bits from %d on of %d are told as %v", n, at, size, a)
					}
				}
			}
		}
	}
}

func TestServeWhatIsNotRight(t *testing.T) {
	for _, d := range wrongDevices() {
		for _, k := range askKinds {
			for _, at := range []int{0, 63, 64, 70, 65535} {
				q := askAt(k.kind, at, 1)
				serves(t, d, q, d, impl.Resp{Kind: k.kind, Fault: impl.FaultDevice})
			}
		}
		for _, q := range wrongQuestions() {
			serves(t, d, q, d, impl.Resp{})
		}
	}
	for _, d := range rightDevices() {
		for _, q := range wrongQuestions() {
			serves(t, d, q, d, impl.Resp{})
		}
		for _, q := range []impl.Req{{Kind: 1}, {Kind: 3, N: -1}, {Kind: 5}, {Kind: 5, Bits: allBits(2)}, {Kind: 15}, {Kind: 16}, {Kind: 6, Words: []int{-1}}, {Kind: 23, N: 1},
			{Kind: 23, Words: []int{1}}, {Kind: 22, Words: []int{1, 65536}}, {Kind: 16, N: 1, Words: []int{1}}, {Kind: 7}, {Kind: 131, N: 1}, {Kind: 3, N: 1, Bits: []bool{true}}} {
			serves(t, d, q, d, impl.Resp{})
		}
	}
}

func TestReadWriteWritesAheadOfReading(t *testing.T) {
	d := sampleDevice(72, 0, 0, 12, 0)
	for at := range 12 {
		for n := 1; n <= 12-at; n++ {
			for wat := range 12 {
				for w := 1; w <= 12-wat; w++ {
					q := bothAt(at, n, wat, w)
					is, a := impl.Serve(d, q)
					then := cloneDevice(d)
					copy(then.Holding[wat:], q.Words)
					if !equalDevice(is, then) || !equalResp(a, impl.Resp{Kind: 23, Words: then.Holding[at : at+n]}) {
						t.Fatalf("Serve(%v, %v) is %v, %v", d, q, is, a)
					}
				}
			}
		}
	}
}

func TestReadWriteThatIsNotAllThere(t *testing.T) {
	for _, size := range []int{0, 1, 2, 5, 64} {
		d := sampleDevice(73, 64, 64, size, 64)
		fault := impl.Resp{Kind: 23, Fault: impl.FaultAt}
		for _, q := range []impl.Req{
			bothAt(0, size+1, 0, 1),  // what is read passes the end by one
			bothAt(0, 1, 0, size+1),  // what is written does
			bothAt(size, 1, 0, 1),    // what is read begins behind it
			bothAt(0, 1, size, 1),    // what is written does
			bothAt(size, 1, size, 1), // both do
			bothAt(size, 2, 0, 1),    // wholly behind it
			bothAt(0, 1, size, 20),
			bothAt(65535, 1, 0, 1), // far away
			bothAt(0, 1, 65535, 1),
			bothAt(0, 125, 0, 1), // the most
			bothAt(0, 1, 0, 121),
			bothAt(0, 125, 0, 121),
			bothAt(65411, 125, 0, 1), // up to the end of all places
			bothAt(0, 1, 65415, 121),
		} {
			serves(t, d, q, d, fault)
		}
	}
}

func TestMaskWord(t *testing.T) {
	some := []int{0, 1, 0x8000, 0x00ff, 0xff00, 0x0f0f, 0xf0f0, 0x5555, 0xaaaa, 0x1234, 65534, 65535}
	for _, word := range some {
		for _, stays := range some {
			for _, set := range some {
				d := impl.Device{Holding: []int{7, word, 9}, Words: []int{1, 1, 1}}
				q := impl.Req{Kind: 22, At: 1, Words: []int{stays, set}}
				then := impl.Device{Holding: []int{7, slowMask(word, stays, set), 9}, Words: []int{1, 1, 1}}
				serves(t, d, q, then, impl.Resp{Kind: 22, At: 1, Words: []int{stays, set}})
			}
			if all, none := slowMask(word, 65535, stays), slowMask(word, 0, stays); all != word || none != stays {
				t.Errorf("with all ones the word stays, with none it is what is set: %d, %d", all, none)
			}
		}
	}
	known := [][4]int{{0x12, 0xf2, 0x25, 0x17}, {0xabcd, 65535, 0x1111, 0xabcd}, {0xabcd, 0, 0x1111, 0x1111}, {0xabcd, 0, 0, 0}, {0, 0xff, 0xffff, 0xff00}, {0xffff, 0x0ff0, 0x0f0f, 0x0fff}, {0x0ff0, 0x00ff, 0x00ff, 0x00f0}}
	for _, k := range known {
		is, _ := impl.Serve(impl.Device{Holding: []int{k[0]}}, impl.Req{Kind: 22, Words: []int{k[1], k[2]}})
		if is.Holding[0] != k[3] {
			t.Errorf("%x masked by %x and %x is %x, not %x", k[0], k[1], k[2], is.Holding[0], k[3])
		}
	}
}

func TestToldSuits(t *testing.T) {
	for _, d := range append(rightDevices(), wrongDevices()...) {
		for _, q := range append(deviceQuestions(8), deviceQuestions(64)...) {
			if _, a := impl.Serve(d, q); !impl.Suits(q, a) {
				t.Errorf("Serve(%v, %v) tells %v, which does not suit", d, q, a)
			}
		}
	}
	for _, d := range []impl.Device{{}, sampleDevice(74, 64, 64, 64, 64), sampleDevice(75, 65, 64, 64, 64)} {
		for _, q := range rightQuestions() {
			if _, a := impl.Serve(d, q); !impl.Suits(q, a) {
				t.Errorf("Serve(%v, %v) tells %v, which does not suit", d, q, a)
			}
		}
	}
}

func TestTwiceIsAsOnce(t *testing.T) {
	for _, d := range append(rightDevices(), wrongDevices()...) {
		for _, q := range append(deviceQuestions(8), deviceQuestions(64)...) {
			once, first := impl.Serve(d, q)
			twice, second := impl.Serve(once, q)
			if !equalDevice(once, twice) || !equalResp(first, second) {
				t.Errorf("%v leaves %v, and asked again %v", q, once, twice)
			}
			if !impl.Writes(q) && !equalDevice(once, d) {
				t.Errorf("%v reads, and leaves %v of %v", q, once, d)
			}
			if impl.DeviceOk(d) != impl.DeviceOk(once) {
				t.Errorf("%v leaves %v", q, once)
			}
		}
	}
}

func TestWhatWasWrittenIsRead(t *testing.T) {
	for _, d := range rightDevices() {
		for _, q := range append(deviceQuestions(8), deviceQuestions(64)...) {
			is, a := impl.Serve(d, q)
			if !impl.Writes(q) || q.Kind == 22 || a.Fault != 0 {
				continue
			}
			ask := impl.Req{Kind: 3, At: q.At, N: len(q.Words)}
			if q.Kind == 23 {
				ask.At = q.WAt
			}
			if len(q.Bits) > 0 {
				ask = impl.Req{Kind: 1, At: q.At, N: len(q.Bits)}
			}
			_, told := impl.Serve(is, ask)
			if told.Fault != 0 || !slices.Equal(told.Words, q.Words) || !slices.Equal(told.Bits[:len(q.Bits)], q.Bits) {
				t.Errorf("behind %v, %v is told %v", q, ask, told)
			}
		}
	}
}

func TestApply(t *testing.T) {
	for _, d := range append(rightDevices(), wrongDevices()...) {
		list := append(deviceQuestions(9), wrongQuestions()...)
		for _, none := range [][]impl.Req{nil, {}, list[:0]} {
			if is, told := impl.Apply(d, none); !equalDevice(is, d) || len(told) != 0 {
				t.Errorf("Apply of no question to %v is %v, %v", d, is, told)
			}
		}
		then, each := cloneDevice(d), []impl.Resp{}
		for _, q := range list {
			var a impl.Resp
			then, a = impl.Serve(then, q)
			each = append(each, a)
		}
		is, told := impl.Apply(d, list)
		if !equalDevice(is, then) || !slices.EqualFunc(told, each, equalResp) {
			t.Errorf("Apply to %v is %v, one behind the other it is %v", d, is, then)
		}
		for _, cut := range []int{0, 1, 2, len(list) / 2, len(list) - 1, len(list)} {
			half, first := impl.Apply(d, list[:cut])
			whole, second := impl.Apply(half, list[cut:])
			if !equalDevice(whole, is) || !slices.EqualFunc(slices.Concat(first, second), told, equalResp) {
				t.Errorf("Apply to %v in two parts at %d is %v, not %v", d, cut, whole, is)
			}
		}
		for _, q := range list {
			is, told := impl.Apply(d, []impl.Req{q})
			if want, a := impl.Serve(d, q); len(told) != 1 || !equalResp(told[0], a) || !equalDevice(is, want) {
				t.Errorf("Apply of %v alone is %v, %v", q, is, told)
			}
		}
	}
}

func TestApplyTellsWhatWasThereThen(t *testing.T) {
	read := impl.Req{Kind: 3, N: 2}
	is, told := impl.Apply(impl.DeviceNew(2), []impl.Req{read, {Kind: 6, Words: []int{5}}, read, {}, {Kind: 6, At: 2, Words: []int{9}}, {Kind: 6, Words: []int{6}}, read})
	want := []impl.Resp{{Kind: 3, Words: []int{0, 0}}, {Kind: 6, Words: []int{5}}, {Kind: 3, Words: []int{5, 0}}, {}, {Kind: 6, Fault: 2}, {Kind: 6, Words: []int{6}}, {Kind: 3, Words: []int{6, 0}}}
	if !slices.EqualFunc(told, want, equalResp) || !slices.Equal(is.Holding, []int{6, 0}) {
		t.Errorf("Apply is %v, %v", is, told)
	}
}

func TestSameDevice(t *testing.T) {
	for _, d := range append(rightDevices(), wrongDevices()...) {
		if !impl.SameDevice(d, d) || !impl.SameDevice(d, cloneDevice(d)) {
			t.Errorf("%v is not the same as itself", d)
		}
		for _, other := range otherDevices(d) {
			if impl.SameDevice(d, other) || impl.SameDevice(other, d) {
				t.Errorf("%v is the same as %v", d, other)
			}
		}
	}
	empty := impl.Device{Coils: []bool{}, Inputs: make([]bool, 0, 3), Holding: []int{}, Words: make([]int, 0, 3)}
	if !impl.SameDevice(empty, impl.Device{}) || !impl.SameDevice(impl.Device{}, empty) {
		t.Error("an empty list and none are not the same")
	}
	a, b := impl.Device{Coils: []bool{true}}, impl.Device{Inputs: []bool{true}}
	if impl.SameDevice(a, b) || impl.SameDevice(impl.Device{Holding: []int{1}}, impl.Device{Words: []int{1}}) {
		t.Error("a space is taken for another one")
	}
}

// otherDevices gives devices that differ from d in one place of one space, or in how many it has.
func otherDevices(d impl.Device) []impl.Device {
	var list []impl.Device
	for space := range 4 {
		size := sizeOf(d, space)
		for _, i := range []int{0, size / 2, size - 1} {
			if i < 0 || i >= size {
				continue
			}
			other := cloneDevice(d)
			switch space {
			case 0:
				other.Coils[i] = !other.Coils[i]
			case 1:
				other.Inputs[i] = !other.Inputs[i]
			case 2:
				other.Holding[i] ^= 256
			case 3:
				other.Words[i] ^= 1
			}
			list = append(list, other)
		}
	}
	for range 4 {
		list = append(list, cloneDevice(d))
	}
	longer := list[len(list)-4:]
	longer[0].Coils = append(longer[0].Coils, false)
	longer[1].Inputs = append(longer[1].Inputs, false)
	longer[2].Holding = append(longer[2].Holding, 0)
	longer[3].Words = append(longer[3].Words, 0)
	return list
}

// withRoom gives a copy of list with this behind it, and a check that neither was written into.
func withRoom[T comparable](list []T, behind ...T) ([]T, func() bool) {
	whole := append(slices.Clone(list), behind...)
	before := slices.Clone(whole)
	return whole[:len(list)], func() bool { return slices.Equal(whole, before) }
}

// roomyDevice gives d with marked room behind its lists, and a check that none of it was written into.
func roomyDevice(t *testing.T, d impl.Device) (impl.Device, func(what string)) {
	t.Helper()
	coils, sameCoils := withRoom(d.Coils, true, false, true)
	inputs, sameInputs := withRoom(d.Inputs, true, false, true)
	holding, sameHolding := withRoom(d.Holding, 111, 222, 333)
	words, sameWords := withRoom(d.Words, 111, 222, 333)
	roomyOne := impl.Device{Coils: coils, Inputs: inputs, Holding: holding, Words: words}
	return roomyOne, func(what string) {
		t.Helper()
		if !sameCoils() || !sameInputs() || !sameHolding() || !sameWords() {
			t.Errorf("%s: the device became %v, it was %v", what, roomyOne, d)
		}
	}
}

// spoilDevice writes over all of d's lists and the room behind them.
func spoilDevice(d impl.Device) {
	spoilReq(impl.Req{Words: d.Holding, Bits: d.Coils})
	spoilReq(impl.Req{Words: d.Words, Bits: d.Inputs})
}

// memoryQuestions gives questions of every kind that are served, that are not all there, and that are not right.
func memoryQuestions() []impl.Req {
	list := append(deviceQuestions(9), wrongQuestions()...)
	return append(list, impl.Req{Kind: 15, N: 1, Bits: allBits(3)}, impl.Req{Kind: 16, N: 1, Words: []int{1, 2}})
}

func TestServeAnswersNewMemory(t *testing.T) {
	for _, d := range []impl.Device{{}, sampleDevice(76, 9, 9, 9, 9), sampleDevice(77, 64, 64, 64, 64), sampleDevice(78, 65, 9, 9, 9), {Coils: allBits(3), Holding: []int{1, -1}, Words: []int{7}}} {
		for _, q := range memoryQuestions() {
			device, sameDevice := roomyDevice(t, d)
			question, sameQuestion := roomyReq(t, q)
			first, told := impl.Serve(device, question)
			second, again := impl.Serve(device, question)
			third, spare := impl.Serve(device, question)
			was, wasTold := cloneDevice(second), impl.Resp{Kind: again.Kind, Fault: again.Fault, At: again.At, N: again.N, Words: slices.Clone(again.Words), Bits: slices.Clone(again.Bits)}
			sameDevice("Serve")
			sameQuestion("Serve")
			spoilDevice(first)
			if !equalResp(told, wasTold) {
				t.Errorf("Serve(%v, %v): the answer shares memory with the device that is answered", d, q)
			}
			spoilResp(told)
			sameDevice("what Serve answered")
			sameQuestion("what Serve answered")
			if !equalDevice(second, was) || !equalResp(again, wasTold) {
				t.Errorf("Serve(%v, %v): two answers share memory", d, q)
			}
			spoilResp(again)
			if !equalDevice(second, was) {
				t.Errorf("Serve(%v, %v): the device that is answered shares memory with the answer", d, q)
			}
			spoilDevice(device)
			spoilReq(question)
			if !equalDevice(third, was) || !equalResp(spare, wasTold) {
				t.Errorf("Serve(%v, %v): an answer shares memory with an argument", d, q)
			}
		}
	}
}

// The lists of a device may be one memory when they come in; what is answered has four.
func TestServePartsListsThatComeInAsOne(t *testing.T) {
	bits, words := sampleBits(79, 9), sampleWords(79, 9)
	d := impl.Device{Coils: bits, Inputs: bits, Holding: words, Words: words}
	for _, q := range memoryQuestions() {
		is, _ := impl.Serve(d, q)
		all, _ := impl.Apply(d, []impl.Req{q})
		for _, one := range []impl.Device{is, all} {
			if !slices.Equal(one.Inputs, bits) || !slices.Equal(one.Words, words) {
				t.Errorf("%v changed what can not be written: %v", q, one)
			}
			spoilReq(impl.Req{Words: one.Holding, Bits: one.Coils})
			if !slices.Equal(one.Inputs, bits) || !slices.Equal(one.Words, words) {
				t.Errorf("%v: two lists of the device that is answered share memory", q)
			}
		}
	}
}

func TestApplyAnswersNewMemory(t *testing.T) {
	for _, d := range []impl.Device{{}, sampleDevice(80, 9, 9, 9, 9), sampleDevice(81, 9, 9, 65, 9)} {
		for _, plain := range [][]impl.Req{nil, memoryQuestions(), slices.Repeat([]impl.Req{{Kind: 3, N: 9}, {Kind: 1, N: 8}}, 3)} {
			device, sameDevice := roomyDevice(t, d)
			marked := impl.Req{Kind: 6, At: 77, Words: []int{77}}
			room := append(slices.Clone(plain), marked)
			var checks []func(what string)
			for i, q := range plain {
				question, sameQuestion := roomyReq(t, q)
				room[i] = question
				checks = append(checks, sameQuestion)
			}
			is, told := impl.Apply(device, room[:len(plain)])
			then, want := impl.Apply(d, plain)
			if !equalDevice(is, then) || !slices.EqualFunc(told, want, equalResp) {
				t.Errorf("Apply to %v is %v, %v the second time", d, is, then)
			}
			spoilDevice(is)
			for i, a := range told {
				if !equalResp(a, want[i]) {
					t.Errorf("Apply to %v: the answer %d shares memory with another one, or with the device", d, i)
				}
				spoilResp(a)
			}
			for i := range told[:cap(told)] {
				told[:cap(told)][i] = impl.Resp{Kind: 99}
			}
			sameDevice("Apply")
			for i, sameQuestion := range checks {
				sameQuestion("Apply")
				if !equalReq(room[i], plain[i]) {
					t.Errorf("Apply: the question %v became %v", plain[i], room[i])
				}
			}
			if !equalReq(room[len(plain)], marked) {
				t.Error("Apply wrote behind its list")
			}
		}
	}
}

func TestDevicesAreLeft(t *testing.T) {
	for _, d := range append(rightDevices(), wrongDevices()...) {
		a, sameA := roomyDevice(t, d)
		b, sameB := roomyDevice(t, d)
		impl.DeviceOk(a)
		sameA("DeviceOk")
		impl.SameDevice(a, b)
		sameA("SameDevice")
		sameB("SameDevice")
	}
	first, second := impl.DeviceNew(9), impl.DeviceNew(9)
	spoilReq(impl.Req{Words: first.Holding, Bits: first.Coils})
	if slices.Contains(first.Inputs, true) || first.Words[0] != 0 || slices.Contains(second.Coils, true) || second.Holding[0] != 0 {
		t.Error("what DeviceNew answers shares memory")
	}
}
