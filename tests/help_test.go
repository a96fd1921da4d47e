package tests

import (
	"bytes"
	"slices"
	"testing"

	"loop.example/g00129/impl"
)

const spareBytes = 8

// roomy gives a copy of b with marked room behind it, and a check that neither was written into.
func roomy(t *testing.T, b []byte) ([]byte, func(what string)) {
	t.Helper()
	whole := append(bytes.Clone(b), bytes.Repeat([]byte{0xA5}, spareBytes)...)
	before := bytes.Clone(whole)
	return whole[:len(b)], func(what string) {
		t.Helper()
		if !bytes.Equal(whole, before) {
			t.Errorf("%s: the argument became %v, it was %v", what, whole, before)
		}
	}
}

// sampleBytes gives n bytes that look mixed and are the same in every run.
func sampleBytes(seed uint32, n int) []byte {
	b := make([]byte, n)
	for i := range b {
		seed = seed*1664525 + 1013904223
		b[i] = byte(seed >> 24)
	}
	return b
}

// sampleLists gives lists of many lengths: none, single bytes, all alike, mixed.
func sampleLists() [][]byte {
	lists := [][]byte{nil, {}, {0}, {1}, {127}, {128}, {255}, {0, 0}, {255, 255}, bytes.Repeat([]byte{255}, 300), make([]byte, 300)}
	for n := 1; n <= 40; n++ {
		lists = append(lists, sampleBytes(uint32(n), n))
	}
	return append(lists, sampleBytes(7, 256), sampleBytes(8, 1000))
}

func equalGot(a impl.Got, b impl.Got) bool {
	return a.Code == b.Code && a.Unit == b.Unit && bytes.Equal(a.Pdu, b.Pdu)
}

func equalGots(a []impl.Got, b []impl.Got) bool { return slices.EqualFunc(a, b, equalGot) }

// cloneGots is a copy of what was told that shares nothing with it.
func cloneGots(told []impl.Got) []impl.Got {
	out := slices.Clone(told)
	for i := range out {
		out[i].Pdu = bytes.Clone(out[i].Pdu)
	}
	return out
}

// spoilGots writes over all that was told and the room behind it.
func spoilGots(told []impl.Got) {
	for _, got := range told {
		spoil(got.Pdu)
	}
	told = told[:cap(told)]
	for i := range told {
		told[i] = impl.Got{Code: 99, Unit: 99, Pdu: []byte{99}}
	}
}

// memoryOf tells where a line that hears keeps its bytes, and when two are the same.
type memoryOf[L any] struct {
	buf   func(*L) *[]byte
	equal func(L, L) bool
}

// answersNewMemory asks the same thing three times, and writes over what is answered and what was handed in.
func answersNewMemory[L any](t *testing.T, what string, plain L, memory memoryOf[L], ask func(L) (L, []impl.Got)) {
	t.Helper()
	in := plain
	buf, unchanged := roomy(t, *memory.buf(&plain))
	*memory.buf(&in) = buf
	first, told := ask(in)
	second, again := ask(in)
	third, spare := ask(in)
	unchanged(what)
	was, wasTold := second, cloneGots(again)
	*memory.buf(&was) = bytes.Clone(*memory.buf(&second))
	spoil(*memory.buf(&first))
	if !equalGots(told, wasTold) {
		t.Errorf("%s of %v: what is told shares memory with what is heard then", what, plain)
	}
	spoilGots(told)
	unchanged("what " + what + " answered")
	if !memory.equal(second, was) || !equalGots(again, wasTold) {
		t.Errorf("%s of %v: two answers share memory", what, plain)
	}
	spoilGots(again)
	if !memory.equal(second, was) {
		t.Errorf("%s of %v: what is heard then shares memory with what is told", what, plain)
	}
	spoil(buf)
	if !memory.equal(third, was) || !equalGots(spare, wasTold) {
		t.Errorf("%s of %v: an answer shares memory with the argument", what, plain)
	}
}
