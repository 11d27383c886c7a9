package tiles

// The only test from inside: what a client remembers stands in a type of any keys and values, of which the calls show only one kind.

import (
	"maps"
	"slices"
	"strconv"
	"testing"
)

// wantHeld: just these keys, in that order, each with itself as the value.
func wantHeld(t *testing.T, m *memory[int, string], want ...int) {
	t.Helper()
	var got []int
	for key, value := range m.all() {
		got = append(got, key)
		if found, ok := m.get(key); !ok || found != value || value != strconv.Itoa(key) {
			t.Errorf("P19: %d is told as %q, and found as %q, %v", key, value, found, ok)
		}
	}
	if !slices.Equal(got, want) {
		t.Errorf("P19: %d are held, want %d", got, want)
	}
	if len(m.held) != len(want) {
		t.Errorf("P19: the map has %v, want %d", slices.Collect(maps.Keys(m.held)), want)
	}
}

func TestMemoryHoldsWhatWasPutLast(t *testing.T) {
	for room := -2; room < 6; room++ {
		m := newMemory[int, string](room)
		wantHeld(t, m)
		var put []int
		for _, key := range []int{0, 1, 2, 0, 3, 3, 1, 4, 5, 6, 0, 6, 5, 4, 1, 1, 7} {
			m.put(key, strconv.Itoa(key))
			put = append(slices.DeleteFunc(put, func(x int) bool { return x == key }), key)
			put = put[max(0, len(put)-max(0, room)):]
			wantHeld(t, m, put...)
		}
	}
}

func TestMemoryIsNotTurnedByAsking(t *testing.T) {
	m := newMemory[int, string](2)
	m.put(1, "1")
	m.put(2, "2")
	m.get(1)
	m.put(3, "3")
	wantHeld(t, m, 2, 3)
	if value, ok := m.get(1); ok || value != "" {
		t.Errorf("P19: what was dropped is found as %q, %v", value, ok)
	}
}

func TestMemoryForgets(t *testing.T) {
	m := newMemory[int, string](3)
	for range 3 {
		for key := range 5 {
			m.put(key, strconv.Itoa(key))
		}
		wantHeld(t, m, 2, 3, 4)
		m.forget()
		wantHeld(t, m)
	}
	m.drop(4)
	m.put(9, "9")
	wantHeld(t, m, 9)
	m.drop(9)
	wantHeld(t, m)
}

func TestMemoryOfOtherKinds(t *testing.T) {
	m := newMemory[place, []int](1)
	m.put(place{1, 2, 3}, []int{4})
	if value, ok := m.get(place{1, 2, 3}); !ok || !slices.Equal(value, []int{4}) {
		t.Errorf("P19: found as %d, %v", value, ok)
	}
	if value, ok := m.get(place{1, 2, 4}); ok || value != nil {
		t.Errorf("P19: another place is found as %d, %v", value, ok)
	}
	m.put(place{1, 2, 3}, nil)
	if value, ok := m.get(place{1, 2, 3}); !ok || value != nil {
		t.Errorf("P19: put anew, found as %d, %v", value, ok)
	}
}

func TestMemoryIsToldAsFarAsAsked(t *testing.T) {
	m := newMemory[string, int](5)
	m.put("a", 1)
	m.put("b", 2)
	for key, value := range m.all() {
		if key != "a" || value != 1 {
			t.Errorf("P19: the first one is %q, %d", key, value)
		}
		break
	}
}
