package tests

import (
	"bytes"
	"cmp"
	"reflect"
	"slices"
	"testing"

	"loop.example/g00129/impl"
)

const spareBytes = 8

// roomy gives a copy of b with marked room behind it, and a check that neither was written into.
func roomy(t *testing.T, b []byte) ([]byte, func(what string)) {
	t.Helper()
	whole := append(bytes.Clone(b), bytes.Repeat([]byte{0xA5}, spareBytes)...)
	before := bytes.Clone(whole)
	return whole[:len(b)], func(what string) {
		t.Helper()
		if !bytes.Equal(whole, before) {
			t.Errorf("%s: the argument became %v, it was %v", what, whole, before)
		}
	}
}

// sampleBytes gives n bytes that look mixed and are the same in every run.
func sampleBytes(seed uint32, n int) []byte {
	b := make([]byte, n)
	for i := range b {
		seed = seed*1664525 + 1013904223
		b[i] = byte(seed >> 24)
	}
	return b
}

// sampleLists gives lists of many lengths: none, single bytes, all alike, mixed.
func sampleLists() [][]byte {
	lists := [][]byte{nil, {}, {0}, {1}, {127}, {128}, {255}, {0, 0}, {255, 255}, bytes.Repeat([]byte{255}, 300), make([]byte, 300)}
	for n := 1; n <= 40; n++ {
		lists = append(lists, sampleBytes(uint32(n), n))
	}
	return append(lists, sampleBytes(7, 256), sampleBytes(8, 1000))
}

func equalGot(a impl.Got, b impl.Got) bool {
	return a.Code == b.Code && a.Unit == b.Unit && bytes.Equal(a.Pdu, b.Pdu)
}

func gotPdu(got *impl.Got) *[]byte { return &got.Pdu }

func equalGots(a []impl.Got, b []impl.Got) bool { return slices.EqualFunc(a, b, equalGot) }

// memoryOf tells where what hears keeps its bytes, where what is told keeps them, and when two are the same.
type memoryOf[L any, T any] struct {
	buf       func(*L) *[]byte
	pdu       func(*T) *[]byte
	equal     func(L, L) bool
	equalTold func(T, T) bool
}

// cloneTold is a copy of what was told that shares nothing with it.
func (m memoryOf[L, T]) cloneTold(told []T) []T {
	out := slices.Clone(told)
	for i := range out {
		pdu := m.pdu(&out[i])
		*pdu = bytes.Clone(*pdu)
	}
	return out
}

// spoilTold writes over all that was told and the room behind it.
func (m memoryOf[L, T]) spoilTold(told []T) {
	for i := range told {
		spoil(*m.pdu(&told[i]))
	}
	told = told[:cap(told)]
	for i := range told {
		*m.pdu(&told[i]) = []byte{99}
	}
}

// partsTold writes over each list that was told, and wants the ones beside it as they were.
func (m memoryOf[L, T]) partsTold(t *testing.T, what string, told []T) {
	t.Helper()
	was := m.cloneTold(told)
	for i := range told {
		spoil(*m.pdu(&told[i]))
		if !slices.EqualFunc(told[i+1:], was[i+1:], m.equalTold) {
			t.Errorf("%s: two lists that are told share memory", what)
			return
		}
	}
}

// answersNewMemory asks the same thing four times, and writes over what is answered and what was handed in.
func answersNewMemory[L any, T any](t *testing.T, what string, plain L, memory memoryOf[L, T], ask func(L) (L, []T)) {
	t.Helper()
	in := plain
	buf, unchanged := roomy(t, *memory.buf(&plain))
	*memory.buf(&in) = buf
	first, told := ask(in)
	second, again := ask(in)
	third, spare := ask(in)
	_, beside := ask(in)
	unchanged(what)
	equalTold := func(a []T, b []T) bool { return slices.EqualFunc(a, b, memory.equalTold) }
	was, wasTold := second, memory.cloneTold(again)
	*memory.buf(&was) = bytes.Clone(*memory.buf(&second))
	memory.partsTold(t, what, beside)
	spoil(*memory.buf(&first))
	if !equalTold(told, wasTold) {
		t.Errorf("%s of %v: what is told shares memory with what is heard then", what, plain)
	}
	memory.spoilTold(told)
	unchanged("what " + what + " answered")
	if !memory.equal(second, was) || !equalTold(again, wasTold) {
		t.Errorf("%s of %v: two answers share memory", what, plain)
	}
	memory.spoilTold(again)
	if !memory.equal(second, was) {
		t.Errorf("%s of %v: what is heard then shares memory with what is told", what, plain)
	}
	spoil(buf)
	if !memory.equal(third, was) || !equalTold(spare, wasTold) {
		t.Errorf("%s of %v: an answer shares memory with the argument", what, plain)
	}
}

// roomyOf is a copy of v down to its last list; behind each list there are two marked elements.
func roomyOf(v reflect.Value) reflect.Value {
	out := reflect.New(v.Type()).Elem()
	switch v.Kind() {
	case reflect.Struct:
		for i := range v.NumField() {
			out.Field(i).Set(roomyOf(v.Field(i)))
		}
	case reflect.Slice:
		n := v.Len()
		whole := reflect.MakeSlice(v.Type(), n+2, n+2)
		for i := range n {
			whole.Index(i).Set(roomyOf(v.Index(i)))
		}
		markRoom(whole.Index(n))
		markRoom(whole.Index(n + 1))
		out.Set(whole.Slice(0, n))
	default:
		out.Set(v)
	}
	return out
}

// markRoom writes what is easily told from nothing into v, and a list of one such into each list.
func markRoom(v reflect.Value) {
	switch v.Kind() {
	case reflect.Struct:
		for i := range v.NumField() {
			markRoom(v.Field(i))
		}
	case reflect.Slice:
		v.Set(reflect.MakeSlice(v.Type(), 1, 1))
		markRoom(v.Index(0))
	case reflect.Int:
		v.SetInt(77)
	case reflect.Uint8:
		v.SetUint(0xA5)
	case reflect.Bool:
		v.SetBool(true)
	case reflect.String:
		v.SetString("room")
	}
}

// sameWithRoom tells whether two values are the same, and the room behind each of their lists, too.
func sameWithRoom(a reflect.Value, b reflect.Value) bool {
	switch a.Kind() {
	case reflect.Struct:
		for i := range a.NumField() {
			if !sameWithRoom(a.Field(i), b.Field(i)) {
				return false
			}
		}
		return true
	case reflect.Slice:
		if a.Len() != b.Len() || a.Cap() != b.Cap() {
			return false
		}
		for i := range a.Cap() {
			if !sameWithRoom(a.Slice(0, a.Cap()).Index(i), b.Slice(0, b.Cap()).Index(i)) {
				return false
			}
		}
		return true
	}
	return a.Equal(b)
}

// A span is the memory of a list with the room behind it, from begin up to end.
type span struct{ begin, end uintptr }

// spansOf gives the memory of each list in v.
func spansOf(v reflect.Value) []span {
	var list []span
	switch v.Kind() {
	case reflect.Struct:
		for i := range v.NumField() {
			list = append(list, spansOf(v.Field(i))...)
		}
	case reflect.Slice:
		if size := uintptr(v.Cap()) * v.Type().Elem().Size(); size > 0 {
			list = append(list, span{v.Pointer(), v.Pointer() + size})
		}
		for i := range v.Len() {
			list = append(list, spansOf(v.Index(i))...)
		}
	}
	return list
}

// areApart tells whether no two of these lists share memory.
func areApart(list []span) bool {
	slices.SortFunc(list, func(a span, b span) int { return cmp.Compare(a.begin, b.begin) })
	for i := 1; i < len(list); i++ {
		if list[i-1].end > list[i].begin {
			return false
		}
	}
	return true
}

// sharesNothing wants that what is answered to args is new memory, each list of it apart from all others, and that
// nothing is written into args nor behind them. Args and answers are structs whose fields are exported.
func sharesNothing[A any, R any](t *testing.T, what string, args A, ask func(A) R) {
	t.Helper()
	in, was := roomyOf(reflect.ValueOf(args)), roomyOf(reflect.ValueOf(args))
	given := in.Interface().(A)
	first, second := reflect.ValueOf(ask(given)), reflect.ValueOf(ask(given))
	if !sameWithRoom(in, was) {
		t.Errorf("%s of %v: the arguments became %v", what, args, given)
	}
	if !areApart(slices.Concat(spansOf(in), spansOf(first), spansOf(second))) {
		t.Errorf("%s of %v: the answer %v shares memory with the arguments, another answer or within itself", what, args, first)
	}
	plain := roomyOf(reflect.ValueOf(ask(args)))
	if !sameWithRoom(roomyOf(first), plain) || !sameWithRoom(roomyOf(second), plain) {
		t.Errorf("%s of %v reads behind the arguments: %v", what, args, first)
	}
}

// staysApart wants that of args that share memory within themselves each list of the answer is apart from all others.
func staysApart[A any, R any](t *testing.T, what string, args A, ask func(A) R) {
	t.Helper()
	if answer := ask(args); !areApart(spansOf(reflect.ValueOf(answer))) {
		t.Errorf("%s of %v: two lists of the answer %v share memory", what, args, answer)
	}
}
