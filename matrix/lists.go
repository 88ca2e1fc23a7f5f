package matrix

import "slices"

// all reports whether the condition holds for all elements of the list.
func all[T any](list []T, holds func(T) bool) bool {
	return !slices.ContainsFunc(list, func(x T) bool { return !holds(x) })
}

// each returns the results of f for the elements of the list.
func each[T, R any](list []T, f func(T) R) []R {
	out := make([]R, len(list))
	for i, x := range list {
		out[i] = f(x)
	}
	return out
}

// combine returns the results of f for corresponding elements of a and b, which have the same length.
func combine[T, R any](a, b []T, f func(x, y T) R) []R {
	out := make([]R, len(a))
	for i, x := range a {
		out[i] = f(x, b[i])
	}
	return out
}
