package solve

import (
	"slices"

	"voltaic/api"
)

// Rows solves as many equations as there are unknowns: each row has the numbers of these, and behind them what the products add up to. ErrNone if there is no answer, ErrFree if there are more than one.
//
// It is Bareiss's way: all rows are made whole, and what is left of them stays so, since the pivot ahead divides it. So no common divisors are looked for but in the answer itself, and numbers don't grow beyond what the answer needs.
func Rows[N any](f Field[N], rows [][]N) ([]N, api.Errno) {
	rows = wholeRows(f, rows)
	order := make([]int, len(rows)) // of the unknowns: those whose pivots are found are ahead
	for i := range order {
		order[i] = i
	}
	last := f.One // the pivot ahead
	for done := range rows {
		if !bringPivot(f, rows, order, done) {
			return nil, stuck(f, rows[done:])
		}
		keepSign(f, rows[done], order[done], last)
		for _, row := range rows[done+1:] {
			takeOut(f, row, rows[done], order[done], last)
		}
		last = rows[done][order[done]]
	}
	return goBack(f, rows, order, last), api.OK
}

// wholeRows is rows anew, each times what makes it whole.
func wholeRows[N any](f Field[N], rows [][]N) [][]N {
	var out [][]N
	for _, row := range rows {
		row = slices.Clone(row)
		for i := range row {
			if bar := f.Bar(row[i]); !f.IsZero(f.Minus(bar, f.One)) {
				timesEach(f, row, bar)
			}
		}
		out = append(out, row)
	}
	return out
}

func timesEach[N any](f Field[N], row []N, by N) {
	for i, x := range row {
		if !f.IsZero(x) {
			row[i] = f.Times(x, by)
		}
	}
}

// bringPivot looks, in what isn't done, for the number with which there is least to reckon, the one with fewest others in its row and column first, and brings its row and its unknown behind those that are done. It answers false if all numbers are 0.
func bringPivot[N any](f Field[N], rows [][]N, order []int, done int) bool {
	inRow, inColumn := countOthers(f, rows, order, done)
	var row, place, size, others int
	found := false
	for i := done; i < len(rows); i++ {
		for k := done; k < len(order); k++ {
			x := rows[i][order[k]]
			if f.IsZero(x) {
				continue
			}
			s, o := f.Size(x), inRow[i]*inColumn[k]
			if !found || s < size || s == size && o < others {
				row, place, size, others, found = i, k, s, o, true
			}
		}
	}
	if found {
		rows[done], rows[row] = rows[row], rows[done]
		order[done], order[place] = order[place], order[done]
	}
	return found
}

// countOthers counts, in what isn't done, those that aren't 0 in each row and column, less one.
func countOthers[N any](f Field[N], rows [][]N, order []int, done int) (inRow, inColumn []int) {
	inRow = slices.Repeat([]int{-1}, len(rows))
	inColumn = slices.Repeat([]int{-1}, len(order))
	for i := done; i < len(rows); i++ {
		for k := done; k < len(order); k++ {
			if !f.IsZero(rows[i][order[k]]) {
				inRow[i]++
				inColumn[k]++
			}
		}
	}
	return inRow, inColumn
}

// stuck tells of rows whose numbers are all 0 whether something must come of that.
func stuck[N any](f Field[N], rows [][]N) api.Errno {
	for _, row := range rows {
		if !f.IsZero(row[len(row)-1]) {
			return api.ErrNone
		}
	}
	return api.ErrFree
}

// keepSign turns a row whose pivot is the opposite of the last one, so that takeOut need not turn all others.
func keepSign[N any](f Field[N], row []N, column int, last N) {
	if f.IsZero(f.Plus(row[column], last)) {
		var zero N
		timesEach(f, row, f.Minus(zero, f.One))
	}
}

// takeOut takes the pivot's unknown out of a row.
func takeOut[N any](f Field[N], row, pivotRow []N, column int, last N) {
	pivot, lead := pivotRow[column], row[column]
	if f.IsZero(lead) && f.IsZero(f.Minus(pivot, last)) {
		return
	}
	for i, x := range row {
		if f.IsZero(x) && (f.IsZero(lead) || f.IsZero(pivotRow[i])) {
			continue
		}
		row[i] = f.Over(f.Minus(f.Times(pivot, x), f.Times(lead, pivotRow[i])), last)
	}
}

// goBack tells the unknowns from the last one on. Times the last pivot they are whole (Cramer), so that only at the end something comes below a bar.
func goBack[N any](f Field[N], rows [][]N, order []int, last N) []N {
	out := make([]N, len(rows))
	for done := len(rows) - 1; done >= 0; done-- {
		row := rows[done]
		sum := f.Times(last, row[len(rows)])
		for _, unknown := range order[done+1:] {
			if !f.IsZero(row[unknown]) {
				sum = f.Minus(sum, f.Times(row[unknown], out[unknown]))
			}
		}
		out[order[done]] = f.Over(sum, row[order[done]])
	}
	for i, x := range out {
		out[i] = f.Over(x, last)
	}
	return out
}
