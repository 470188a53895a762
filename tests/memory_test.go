package tests

import (
	"slices"
	"testing"
)

// roomyList returns a list that is a part of a larger array: filled with spare elements behind it.
func roomyList[E any](list []E, spare E) []E {
	roomy := slices.Clone(list)
	for range len(list) + 4 {
		roomy = append(roomy, spare)
	}
	return roomy[:len(list)]
}

// untouched reports whether the result of roomyList still holds the list, and the spare elements behind it.
func untouched[E comparable](roomy []E, list []E, spare E) bool {
	whole := roomy[:2*len(list)+4]
	return slices.Equal(whole[:len(list)], list) && !slices.ContainsFunc(whole[len(list):], func(e E) bool { return e != spare })
}

// overwrite changes a list and the capacity behind it.
func overwrite[E any](list []E, mark E) {
	for at := range list[:cap(list)] {
		list[:cap(list)][at] = mark
	}
}

// checkUnchanged checks that a call changes neither list nor the capacity behind it.
func checkUnchanged[E comparable](t *testing.T, name string, a []E, b []E, spare E, call func(a []E, b []E)) {
	t.Helper()
	roomyA, roomyB := roomyList(a, spare), roomyList(b, spare)
	call(roomyA, roomyB)
	if !untouched(roomyA, a, spare) || !untouched(roomyB, b, spare) {
		t.Errorf("%s changed the memory of %v or %v", name, a, b)
	}
}

// checkNewMemory checks that a result shares no memory with the lists, nor with the result of another call, and does not depend on the capacity behind the lists.
func checkNewMemory[E comparable](t *testing.T, name string, a []E, b []E, spare E, mark E, of func(a []E, b []E) []E) {
	t.Helper()
	roomyA, roomyB := roomyList(a, spare), roomyList(b, spare)
	overwrite(of(roomyA, roomyB), mark)
	if !untouched(roomyA, a, spare) || !untouched(roomyB, b, spare) {
		t.Errorf("the result of %s is in the memory of %v or %v", name, a, b)
	}
	first, second := of(roomyA, roomyB), of(roomyA, roomyB)
	if !slices.Equal(first, of(slices.Clip(a), slices.Clip(b))) {
		t.Errorf("the result of %s at %v and %v depends on what is behind them", name, a, b)
	}
	kept := slices.Clone(first)
	overwrite(second, mark)
	overwrite(roomyA, mark)
	overwrite(roomyB, mark)
	if !slices.Equal(first, kept) {
		t.Errorf("the result of %s at %v and %v changed later", name, a, b)
	}
}
