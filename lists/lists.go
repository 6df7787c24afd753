// Package lists has what the layers do with lists of any elements, and with
// the errors of their arguments.
package lists

import "lenslet/api"

// FirstError returns the first error of several, or OK.
func FirstError(errors ...api.Errno) api.Errno {
	for _, e := range errors {
		if e != api.OK {
			return e
		}
	}
	return api.OK
}

// CheckCount returns the error of a number of elements from 1 to a limit.
func CheckCount(n, most int) api.Errno {
	switch {
	case n == 0:
		return api.ErrEmpty
	case n > most:
		return api.ErrMany
	}
	return api.OK
}

// CheckRange returns the error of an integer that must be in a range.
func CheckRange(n, least, most int) api.Errno {
	if n < least || n > most {
		return api.ErrRange
	}
	return api.OK
}

// FirstBad returns the error of the first element with one, or OK.
func FirstBad[T any](list []T, check func(T) api.Errno) api.Errno {
	for _, element := range list {
		if e := check(element); e != api.OK {
			return e
		}
	}
	return api.OK
}

// Mapped returns the results of a function for all elements.
func Mapped[T, U any](list []T, of func(T) U) []U {
	results := make([]U, len(list))
	for i, element := range list {
		results[i] = of(element)
	}
	return results
}

// Checked returns the results of a function for all elements, or the error
// of the first element with one.
func Checked[T, U any](list []T, of func(T) (U, api.Errno)) ([]U, api.Errno) {
	results := make([]U, len(list))
	for i, element := range list {
		result, e := of(element)
		if e != api.OK {
			return nil, e
		}
		results[i] = result
	}
	return results, api.OK
}

// Sum returns the sum of all elements, and the zero value if there are none.
// It adds the sums of halves: fractions that are added one after the other
// would be long from early on.
func Sum[T any](list []T, add func(a, b T) T) T {
	switch len(list) {
	case 0:
		var zero T
		return zero
	case 1:
		return list[0]
	}
	middle := len(list) / 2
	return add(Sum(list[:middle], add), Sum(list[middle:], add))
}

// Dot returns the sum of the products of the elements of two lists of the same
// length, and the zero value if there are none.
func Dot[T any](a, b []T, times, add func(a, b T) T) T {
	products := make([]T, len(a))
	for i := range a {
		products[i] = times(a[i], b[i])
	}
	return Sum(products, add)
}
