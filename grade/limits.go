package grade

// ordered is a type of numbers: Compare returns -1, 0 or 1.
type ordered[T any] interface{ Compare(T) int }

// limit is a limit of values on one side, if there is one.
type limit[T ordered[T]] struct {
	value  T
	exists bool
}

// limits are the limits of a factor for a grade.
type limits[T ordered[T]] struct {
	least limit[T]
	most  limit[T]
}

// isBelow reports whether a value is below the least one.
func isBelow[T ordered[T]](l limits[T], value T) bool {
	return l.least.exists && value.Compare(l.least.value) < 0
}

// isAbove reports whether a value is above the greatest one.
func isAbove[T ordered[T]](l limits[T], value T) bool {
	return l.most.exists && value.Compare(l.most.value) > 0
}

// hold reports whether limits hold for a value.
func hold[T ordered[T]](l limits[T], value T) bool {
	return !isBelow(l, value) && !isAbove(l, value)
}

// areEmpty reports whether limits hold for no value.
func areEmpty[T ordered[T]](l limits[T]) bool {
	return l.least.exists && isAbove(l, l.least.value)
}

// contain reports whether outer limits hold for all values for which inner ones do; the inner ones are not empty.
func contain[T ordered[T]](outer, inner limits[T]) bool {
	reachesDown := !outer.least.exists || inner.least.exists && !isBelow(outer, inner.least.value)
	reachesUp := !outer.most.exists || inner.most.exists && !isAbove(outer, inner.most.value)
	return reachesDown && reachesUp
}
