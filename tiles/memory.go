package tiles

import "iter"

// memory holds values by their keys, up to room of them: those that were put last.
type memory[K comparable, V any] struct {
	room int
	held map[K]*link[K, V]
	ends *link[K, V] // closes the row to a ring: behind it is the value put longest ago, ahead of it the one put last
}

// link is a value in the row in which values were put: a map alone does not know which was the first.
type link[K comparable, V any] struct {
	key          K
	value        V
	older, newer *link[K, V]
}

func newMemory[K comparable, V any](room int) *memory[K, V] {
	m := &memory[K, V]{room: room, held: map[K]*link[K, V]{}, ends: &link[K, V]{}}
	m.forget()
	return m
}

func (m *memory[K, V]) get(key K) (value V, ok bool) {
	l, ok := m.held[key]
	if ok {
		value = l.value
	}
	return value, ok
}

// put holds a value, instead of any that has the same key.
func (m *memory[K, V]) put(key K, value V) {
	m.drop(key)
	l := &link[K, V]{key, value, m.ends.older, m.ends}
	l.older.newer, l.newer.older = l, l
	m.held[key] = l
	if len(m.held) > m.room {
		m.drop(m.ends.newer.key)
	}
}

func (m *memory[K, V]) drop(key K) {
	l, ok := m.held[key]
	if !ok {
		return
	}
	l.older.newer, l.newer.older = l.newer, l.older
	delete(m.held, key)
}

// forget drops all.
func (m *memory[K, V]) forget() {
	clear(m.held)
	m.ends.older, m.ends.newer = m.ends, m.ends
}

// all are the values, from the one put longest ago on.
func (m *memory[K, V]) all() iter.Seq2[K, V] {
	return func(yield func(K, V) bool) {
		for l := m.ends.newer; l != m.ends; l = l.newer {
			if !yield(l.key, l.value) {
				return
			}
		}
	}
}
