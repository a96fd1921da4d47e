package tests

import (
	"bytes"
	"slices"
	"testing"

	"loop.example/g00129/impl"
)

const spareBytes = 8

// roomy gives a copy of b with marked room behind it, and a check that neither was written into.
func roomy(t *testing.T, b []byte) ([]byte, func(what string)) {
	t.Helper()
	whole := append(bytes.Clone(b), bytes.Repeat([]byte{0xA5}, spareBytes)...)
	before := bytes.Clone(whole)
	return whole[:len(b)], func(what string) {
		t.Helper()
		if !bytes.Equal(whole, before) {
			t.Errorf("%s: the argument became %v, it was %v", what, whole, before)
		}
	}
}

// sampleBytes gives n bytes that look mixed and are the same in every run.
func sampleBytes(seed uint32, n int) []byte {
	b := make([]byte, n)
	for i := range b {
		seed = seed*1664525 + 1013904223
		b[i] = byte(seed >> 24)
	}
	return b
}

// sampleLists gives lists of many lengths: none, single bytes, all alike, mixed.
func sampleLists() [][]byte {
	lists := [][]byte{nil, {}, {0}, {1}, {127}, {128}, {255}, {0, 0}, {255, 255}, bytes.Repeat([]byte{255}, 300), make([]byte, 300)}
	for n := 1; n <= 40; n++ {
		lists = append(lists, sampleBytes(uint32(n), n))
	}
	return append(lists, sampleBytes(7, 256), sampleBytes(8, 1000))
}

func equalGot(a impl.Got, b impl.Got) bool {
	return a.Code == b.Code && a.Unit == b.Unit && bytes.Equal(a.Pdu, b.Pdu)
}

func gotPdu(got *impl.Got) *[]byte { return &got.Pdu }

func equalGots(a []impl.Got, b []impl.Got) bool { return slices.EqualFunc(a, b, equalGot) }

// memoryOf tells where what hears keeps its bytes, where what is told keeps them, and when two are the same.
type memoryOf[L any, T any] struct {
	buf       func(*L) *[]byte
	pdu       func(*T) *[]byte
	equal     func(L, L) bool
	equalTold func(T, T) bool
}

// cloneTold is a copy of what was told that shares nothing with it.
func (m memoryOf[L, T]) cloneTold(told []T) []T {
	out := slices.Clone(told)
	for i := range out {
		pdu := m.pdu(&out[i])
		*pdu = bytes.Clone(*pdu)
	}
	return out
}

// spoilTold writes over all that was told and the room behind it.
func (m memoryOf[L, T]) spoilTold(told []T) {
	for i := range told {
		spoil(*m.pdu(&told[i]))
	}
	told = told[:cap(told)]
	for i := range told {
		*m.pdu(&told[i]) = []byte{99}
	}
}

// partsTold writes over each list that was told, and wants the ones beside it as they were.
func (m memoryOf[L, T]) partsTold(t *testing.T, what string, told []T) {
	t.Helper()
	was := m.cloneTold(told)
	for i := range told {
		spoil(*m.pdu(&told[i]))
		if !slices.EqualFunc(told[i+1:], was[i+1:], m.equalTold) {
			t.Errorf("%s: two lists that are told share memory", what)
			return
		}
	}
}

// answersNewMemory asks the same thing four times, and writes over what is answered and what was handed in.
func answersNewMemory[L any, T any](t *testing.T, what string, plain L, memory memoryOf[L, T], ask func(L) (L, []T)) {
	t.Helper()
	in := plain
	buf, unchanged := roomy(t, *memory.buf(&plain))
	*memory.buf(&in) = buf
	first, told := ask(in)
	second, again := ask(in)
	third, spare := ask(in)
	_, beside := ask(in)
	unchanged(what)
	equalTold := func(a []T, b []T) bool { return slices.EqualFunc(a, b, memory.equalTold) }
	was, wasTold := second, memory.cloneTold(again)
	*memory.buf(&was) = bytes.Clone(*memory.buf(&second))
	memory.partsTold(t, what, beside)
	spoil(*memory.buf(&first))
	if !equalTold(told, wasTold) {
		t.Errorf("%s of %v: what is told shares memory with what is heard then", what, plain)
	}
	memory.spoilTold(told)
	unchanged("what " + what + " answered")
	if !memory.equal(second, was) || !equalTold(again, wasTold) {
		t.Errorf("%s of %v: two answers share memory", what, plain)
	}
	memory.spoilTold(again)
	if !memory.equal(second, was) {
		t.Errorf("%s of %v: what is heard then shares memory with what is told", what, plain)
	}
	spoil(buf)
	if !memory.equal(third, was) || !equalTold(spare, wasTold) {
		t.Errorf("%s of %v: an answer shares memory with the argument", what, plain)
	}
}
