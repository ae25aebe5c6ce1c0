// Package sample makes what the tests of several layers try their calls on. It
// is no part of the optimizer.
package sample

// Source gives numbers that look random, but are the same for the same seed.
type Source struct{ state uint64 }

// From is a source with a seed.
func From(seed int) *Source {
	return &Source{uint64(seed)}
}

// Below is the next number; it is at least 0 and less than n, which is positive.
func (s *Source) Below(n int) int {
	s.state += 0x9e3779b97f4a7c15
	x := s.state
	x = (x ^ x>>30) * 0xbf58476d1ce4e5b9
	x = (x ^ x>>27) * 0x94d049bb133111eb
	return int((x ^ x>>31) % uint64(n))
}

// Once tells, in one of n cases, true.
func (s *Source) Once(n int) bool {
	return s.Below(n) == 0
}

// Shuffled is the numbers from 0 to n-1 in some order.
func (s *Source) Shuffled(n int) []int {
	l := make([]int, n)
	for i := range l {
		j := s.Below(i + 1)
		l[i] = l[j]
		l[j] = i
	}
	return l
}
