package series

import (
	"math/bits"

	"surd/api"
	"surd/whole"
)

// sum gathers terms in columns, after Smith: what stands in column j is meant
// times y^j. So most terms come from the one before without a product: only
// each m-th one, m being the number of columns, is to be taken times y^m.
type sum struct {
	grid
	y       api.Whole
	columns []api.Whole
}

// add puts the n-th term into its column.
func (s *sum) add(n int, term api.Whole) {
	j := n % len(s.columns)
	s.columns[j] = plus(s.columns[j], term)
}

// total is what all columns come to.
func (s *sum) total() api.Whole {
	var made api.Whole
	for j := range s.columns {
		made = plus(s.product(made, s.y), s.columns[len(s.columns)-1-j])
	}
	return made
}

// series is the sum of c_n y^n: c_0 is first, and next makes c_n of c_(n-1).
//
// It is off by less than 64 steps for each place of its grid (16 places or
// more), if y is at most 1/2 in size and first at most 1, both off by a step or
// less, and no c_n is greater in size than the one before, and next is off by a
// step:
//   - y^m is 2 steps off, as each square of what is at most 1/2 adds 1 or less;
//   - a term is 2m + 10 steps off, as next adds 1, and a product by y^m leaves
//     half of what there was and adds 3;
//   - what the terms that are left out come to is at most twice what the first
//     of them, which came to 0, is off;
//   - a column is 2m + 10 steps off for each of its terms, and the total twice
//     that, and 10;
//   - there are at most m more terms than places, and m m is not above these.
type series struct {
	sum
	first api.Whole
	// row is y^m.
	row  api.Whole
	next func(n int, c api.Whole) api.Whole
}

// seriesOf is a series with so many columns that the products at the end are
// about as many as those on the way there.
func seriesOf(g grid, first, y api.Whole, next func(n int, c api.Whole) api.Whole) *series {
	terms := int(g) / max(g.depth(y), 1)
	squares := (bits.Len(uint(terms)) - 1) / 2
	row := y
	for range squares {
		row = g.product(row, row)
	}
	columns := make([]api.Whole, 1<<squares)
	return &series{sum: sum{grid: g, y: y, columns: columns}, first: first, row: row, next: next}
}

// terms tells the terms as their columns take them, until one comes to 0.
func (s *series) terms(yield func(n int, term api.Whole) bool) {
	term := s.first
	for n := 0; whole.Sign(term) != 0 && yield(n, term); {
		n++
		if n%len(s.columns) == 0 {
			term = s.product(term, s.row)
		}
		term = s.next(n, term)
	}
}

// value is what the series comes to.
func (s *series) value() api.Whole {
	for n, term := range s.terms {
		s.add(n, term)
	}
	return s.total()
}
