package sweep_test

import (
	"math/big"
	"math/rand"
	"strconv"
	"testing"

	"abacist/api"
	"abacist/eval"
	"abacist/sweep"
	"abacist/value"
)

// linear is a formula of a model: a number that two cells have, each so many times, and one more, by another one.
type linear struct {
	first, second, a, b, more, by int
}

// text is it as a formula's.
func (l linear) text() string {
	return "(" + place(l.first) + "*" + strconv.Itoa(l.a) + "+" + place(l.second) + "*" + strconv.Itoa(l.b) + "+" + strconv.Itoa(l.more) + ")/" + strconv.Itoa(l.by)
}

// held is what a cell of a model has: a number, or with none Blank or a fault.
type held struct {
	r     *big.Rat
	fault int
}

// limited is a number, or the fault that it is with too many bits.
func limited(r *big.Rat) held {
	if max(r.Num().BitLen(), r.Denom().BitLen()) > api.MaxBits {
		return held{fault: api.FaultNum}
	}
	return held{r: r}
}

// value is it as a cell's.
func (h held) value() api.Value {
	switch {
	case h.r != nil:
		return number(ratio(h.r.Num(), h.r.Denom()))
	case h.fault != 0:
		return fault(h.fault)
	}
	return api.Value{}
}

// with is what an operation makes of two, of which a Blank is 0.
func (h held) with(do func(z, x, y *big.Rat) *big.Rat, other held) held {
	zero := new(big.Rat)
	switch {
	case h.fault != 0:
		return h
	case other.fault != 0:
		return other
	case h.r == nil:
		h.r = zero
	}
	if other.r == nil {
		other.r = zero
	}
	return limited(do(new(big.Rat), h.r, other.r))
}

// near is whether it is near to another one.
func (h held) near(other held, eps *big.Rat) bool {
	if h.r == nil || other.r == nil {
		return h.r == nil && other.r == nil && h.fault == other.fault
	}
	apart := new(big.Rat).Sub(h.r, other.r)
	apart.Abs(apart)
	return limited(apart).r != nil && apart.Cmp(eps) <= 0
}

// whole is a model's number n.
func whole(n int) held { return held{r: big.NewRat(int64(n), 1)} }

// reckoned is what a formula is, of what the cells have.
func (l linear) reckoned(has []held) held {
	mul, add, quo := (*big.Rat).Mul, (*big.Rat).Add, (*big.Rat).Quo
	sum := has[l.first].with(mul, whole(l.a)).with(add, has[l.second].with(mul, whole(l.b)))
	return sum.with(add, whole(l.more)).with(quo, whole(l.by))
}

// swept is how many sweeps there are, and what the cells have then; the first n have formulas.
func swept(has []held, forms []linear, most int, eps *big.Rat) int {
	for sweeps := range most {
		had := append([]held(nil), has...)
		for i, f := range forms {
			has[i] = f.reckoned(has)
		}
		still := true
		for i := range forms {
			still = still && has[i].near(had[i], eps)
		}
		if still {
			return sweeps + 1
		}
	}
	return most
}

// drawn are formulas of the first cells of some, and what all have at first.
func drawn(c *rand.Rand) ([]held, []linear) {
	has := make([]held, 1+c.Intn(6))
	for i := range has {
		switch c.Intn(6) {
		case 0:
		case 1:
			has[i].fault = 1 + c.Intn(7)
		default:
			has[i].r = big.NewRat(int64(c.Intn(21)-10), int64(1+c.Intn(4)))
		}
	}
	forms := make([]linear, 1+c.Intn(len(has)))
	steep, far := 1+c.Intn(4), 1+c.Intn(9)
	for i := range forms {
		forms[i] = linear{c.Intn(len(has)), c.Intn(len(has)), c.Intn(steep), c.Intn(steep), c.Intn(far), 1 + c.Intn(far)}
	}
	return has, forms
}

// P32.2, P32.3: drawn circles of numbers, some of which get too many bits, held against math/big.
func TestByChance(t *testing.T) {
	c := rand.New(rand.NewSource(32))
	counts := map[string]int{}
	for range 1500 {
		has, model := drawn(c)
		s := scope(t)
		for i, h := range has {
			s.Put(cell(t, place(i)), h.value())
		}
		var lines []string
		for i, f := range model {
			lines = append(lines, place(i)+" "+f.text())
		}
		cells, forms := circle(t, lines...)
		most := []int{0, 1, 2, 5, 40, 100}[c.Intn(6)]
		eps := []*big.Rat{new(big.Rat), big.NewRat(1, 1000000), big.NewRat(1, 4), big.NewRat(3, 1)}[c.Intn(4)]
		want := swept(has, model, most, eps)
		if got, e := sweep.Do(s, cells, forms, most, ratio(eps.Num(), eps.Denom())); got != want || e != api.OK {
			t.Fatalf("%q, most %d, eps %v: %d, %d, want %d", lines, most, eps, got, e, want)
		}
		for i, h := range has {
			if got := s.Get(cell(t, place(i))); got != h.value() {
				t.Fatalf("%q, most %d, eps %v: %s has %q, want %v", lines, most, eps, place(i), value.Show(got), h)
			}
			if h.fault == api.FaultNum {
				counts["too many bits"]++
			}
		}
		switch {
		case want == most && most == 100:
			counts["to the end"]++
		case want > 5 && want < most:
			counts["late"]++
		case want > 1 && want < most:
			counts["early"]++
		}
	}
	if counts["too many bits"] < 100 || counts["to the end"] < 20 || counts["late"] < 20 || counts["early"] < 100 {
		t.Errorf("%v", counts)
	}
}

// mixed is a formula of drawn cells, with values of all kinds.
func mixed(c *rand.Rand) string {
	a, b := place(c.Intn(5)), place(c.Intn(5))
	switch c.Intn(12) {
	case 0:
		return "MOD(" + a + "+1,3)"
	case 1:
		return "NOT(" + a + ")"
	case 2:
		return "LEFT(" + a + "&\"x\",3)"
	case 3:
		return "RIGHT(" + a + "&" + b + ",2)"
	case 4:
		return "IF(" + a + ">" + b + "," + b + "," + a + "+1)"
	case 5:
		return "IFERROR(" + a + "/" + b + ",\"\")"
	case 6:
		return "1/" + a
	case 7:
		return "MIN(A1:A5," + b + ")"
	case 8:
		return "(" + a + "+" + b + ")/2"
	case 9:
		return a + "=" + b
	case 10:
		return "COUNT(A1:A5)"
	}
	return a
}

// byHand is what Do is to do, with what the whole scope had noted ahead of each sweep. No cell is there twice.
func byHand(t *testing.T, s *eval.Scope, cells []api.Cell, forms []api.Formula, most int, eps api.Rat) int {
	t.Helper()
	for sweeps := range most {
		had := s.Copy()
		for i, at := range cells {
			v, e := s.Do(forms[i], at)
			if e != api.OK || s.Put(at, v) != api.OK {
				t.Fatalf("Do: %d", e)
			}
		}
		far := 0
		for _, at := range cells {
			if !sweep.Near(s.Get(at), had.Get(at), eps) {
				far++
			}
		}
		if far == 0 {
			return sweeps + 1
		}
	}
	return most
}

// drawnMixed is a scope with values of all kinds, and some of its cells, in any order, with formulas.
func drawnMixed(t *testing.T, c *rand.Rand) (*eval.Scope, []api.Cell, []api.Formula) {
	t.Helper()
	s := scope(t)
	var lines []string
	for _, i := range c.Perm(5) {
		v := []api.Value{{}, whole(c.Intn(7) - 3).value(), written("ab"), truth(c.Intn(2) == 0), fault(1 + c.Intn(7)), whole(0).value()}[c.Intn(6)]
		if e := s.Put(cell(t, place(i)), v); e != api.OK {
			t.Fatal(e)
		}
		if c.Intn(4) > 0 {
			lines = append(lines, place(i)+" "+mixed(c))
		}
	}
	cells, forms := circle(t, lines...)
	return s, cells, forms
}

// P32.2: drawn circles of values of all kinds, held against what is done by hand; sweeps that are done in two calls are done as in one.
func TestMixedByChance(t *testing.T) {
	c := rand.New(rand.NewSource(322))
	settled := 0
	for range 2000 {
		s, cells, forms := drawnMixed(t, c)
		other, third := s.Copy(), s.Copy()
		most, first := c.Intn(12), c.Intn(6)
		eps := rational(t, []string{"0", "1/8", "1"}[c.Intn(3)])
		want := byHand(t, other, cells, forms, most, eps)
		got, e := sweep.Do(s, cells, forms, most, eps)
		if got != want || e != api.OK {
			t.Fatalf("%d, %d, want %d", got, e, want)
		}
		same(t, "drawn", s, other)
		if got > 1 && got < most {
			settled++
		}
		if got > first {
			n, _ := sweep.Do(third, cells, forms, first, eps)
			m, _ := sweep.Do(third, cells, forms, most-first, eps)
			if n != first || n+m != got {
				t.Fatalf("in two calls: %d and %d, want %d", n, m, got)
			}
			same(t, "in two calls", third, s)
		}
	}
	if settled < 200 {
		t.Errorf("just %d settled behind more than one sweep", settled)
	}
}

// P32.3: with most 0 nothing changes; nor behind what ended early with eps 0.
func TestFollowsByChance(t *testing.T) {
	c := rand.New(rand.NewSource(323))
	early := 0
	for range 1500 {
		s, cells, forms := drawnMixed(t, c)
		// A cell may be there twice, too.
		if len(cells) > 1 && c.Intn(3) == 0 {
			cells[0] = cells[len(cells)-1]
		}
		had := s.Copy()
		if got, e := sweep.Do(s, cells, forms, 0, rational(t, "0")); got != 0 || e != api.OK {
			t.Fatalf("most 0: %d, %d", got, e)
		}
		same(t, "most 0", s, had)
		got, e := sweep.Do(s, cells, forms, 15, rational(t, "0"))
		if e != api.OK {
			t.Fatal(e)
		}
		if got == 15 {
			continue
		}
		early++
		had = s.Copy()
		for _, most := range []int{1, 7} {
			if got, e := sweep.Do(s, cells, forms, most, rational(t, "0")); got != 1 || e != api.OK {
				t.Fatalf("%d more: %d, %d", most, got, e)
			}
			same(t, "one more", s, had)
		}
	}
	if early < 300 {
		t.Errorf("just %d ended early", early)
	}
}

// P32.2: a cell of which the scope has none is looked for in any place, ahead of the first sweep.
func TestLostByChance(t *testing.T) {
	c := rand.New(rand.NewSource(324))
	for range 300 {
		s, cells, forms := drawnMixed(t, c)
		if len(cells) == 0 {
			continue
		}
		lost := []api.Cell{{Sheet: 2, Col: 1, Row: 1}, {Sheet: -1, Col: 1, Row: 1}, {Col: 0, Row: 1}, {Col: api.MaxCol + 1, Row: 1}, {Col: 1, Row: api.MaxRow + 1}, {Col: 1}}
		cells[c.Intn(len(cells))] = lost[c.Intn(len(lost))]
		had := s.Copy()
		if got, e := sweep.Do(s, cells, forms, 1+c.Intn(9), rational(t, "0")); got != 0 || e != api.ErrAddr {
			t.Fatalf("%d, %d", got, e)
		}
		same(t, "a cell that is not there", s, had)
	}
}
