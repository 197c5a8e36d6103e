package dock

import "iter"

// first returns the first of some candidates that is as asked, and whether there is one.
func first[T any](candidates iter.Seq[T], is func(T) bool) (T, bool) {
	for one := range candidates {
		if is(one) {
			return one, true
		}
	}
	var none T
	return none, false
}

// numbers returns the numbers from 0 on that are less than one.
func numbers(count int) iter.Seq[int] {
	return func(yield func(int) bool) {
		for i := range count {
			if !yield(i) {
				return
			}
		}
	}
}
