package loop

import (
	"lenslet/interval"
	"lenslet/lists"
	"lenslet/rational"
)

// spans has the spans of the coefficients of polynomials, of ascending powers.
type spans []interval.Interval

// outcome says what a reduction of spans shows: that they are certified, that
// none of their polynomials is stable, or neither.
type outcome int

const (
	open outcome = iota
	certified
	refused
)

// areCertified reports whether spans have the certificate that all their
// polynomials are stable. Spans of single numbers have it exactly if their
// polynomial is stable (Schur and Cohn).
//
// Numbers have twice as many digits after each step. Wider spans, with ends of
// few digits, decide about most polynomials: if they are certified, so are the
// spans in them, and if none of their polynomials is stable, these are not.
func (p spans) areCertified() bool {
	p = p.inIntegers()
	for _, bits := range [...]int{128, 1024, 8192} {
		rounded := func(p spans) spans { return p.rounded(bits) }
		if outcome := p.reduced(rounded); outcome != open {
			return outcome == certified
		}
	}
	return p.reduced(spans.inIntegers) == certified
}

// reduced returns what the reduction of spans shows, which are shortened
// before each step.
func (p spans) reduced(shortened func(spans) spans) outcome {
	result := certified
reduction:
	for len(p) > 1 {
		p = shortened(p)
		switch {
		case p.areUnstable():
			result = refused
			break reduction
		case p[0].Greatest().Cmp(p[len(p)-1].Least()) >= 0:
			result = open
			break reduction
		}
		p = p.step()
	}
	return result
}

// areUnstable reports whether no polynomial is stable as each one has a
// coefficient that is too large: the quotient of that at the power k and the
// leading one is a sum of products of n - k of the n roots.
func (p spans) areUnstable() bool {
	degree := len(p) - 1
	products := 1
	for k, span := range p[:degree] {
		bound := p[degree].Greatest().Mul(rational.Integer(rational.Whole(products)))
		if span.Least().Cmp(bound) >= 0 {
			return true
		}
		products = products * (degree - k) / (k + 1)
	}
	return false
}

// step returns the spans of the polynomials whose degree is less by 1.
func (p spans) step() spans {
	degree := len(p) - 1
	s, t := p[0], p[degree]
	next := make(spans, degree)
	for k := range next {
		next[k] = t.Times(p[k+1]).Minus(s.Times(p[degree-1-k]))
	}
	return next
}

// inIntegers returns the spans divided by the greatest number of which all
// their ends are multiples.
func (p spans) inIntegers() spans {
	var ends []rational.Ratio
	for _, span := range p {
		ends = append(ends, span.Low, span.High)
	}
	counts, _ := rational.Integers(ends)
	whole := make(spans, len(p))
	for i := range whole {
		whole[i] = interval.Interval{Low: rational.Integer(counts[2*i]), High: rational.Integer(counts[2*i+1])}
	}
	return whole
}

// rounded returns spans that contain those of integers, divided by a power of
// 2: their ends are integers with at most so many bits, and one that carries.
func (p spans) rounded(bits int) spans {
	longest := 0
	for _, span := range p {
		longest = max(longest, span.Low.Num().BitLen(), span.High.Num().BitLen())
	}
	if longest <= bits {
		return p
	}
	unit := rational.Whole(1).Left(longest - bits)
	return lists.Mapped(p, func(span interval.Interval) interval.Interval {
		low, high := span.Low.Num().Quo(unit), span.High.Num().Neg().Quo(unit).Neg()
		return interval.Interval{Low: rational.Integer(low), High: rational.Integer(high)}
	})
}
