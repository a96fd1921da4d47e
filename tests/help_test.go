package tests

import (
	"bytes"
	"testing"
)

const spareBytes = 8

// roomy gives a copy of b with marked room behind it, and a check that neither was written into.
func roomy(t *testing.T, b []byte) ([]byte, func(what string)) {
	t.Helper()
	whole := append(bytes.Clone(b), bytes.Repeat([]byte{0xA5}, spareBytes)...)
	before := bytes.Clone(whole)
	return whole[:len(b)], func(what string) {
		t.Helper()
		if !bytes.Equal(whole, before) {
			t.Errorf("%s: the argument became %v, it was %v", what, whole, before)
		}
	}
}

// sampleBytes gives n bytes that look mixed and are the same in every run.
func sampleBytes(seed uint32, n int) []byte {
	b := make([]byte, n)
	for i := range b {
		seed = seed*1664525 + 1013904223
		b[i] = byte(seed >> 24)
	}
	return b
}

// sampleLists gives lists of many lengths: none, single bytes, all alike, mixed.
func sampleLists() [][]byte {
	lists := [][]byte{nil, {}, {0}, {1}, {127}, {128}, {255}, {0, 0}, {255, 255}, bytes.Repeat([]byte{255}, 300), make([]byte, 300)}
	for n := 1; n <= 40; n++ {
		lists = append(lists, sampleBytes(uint32(n), n))
	}
	return append(lists, sampleBytes(7, 256), sampleBytes(8, 1000))
}
