package fagg_test

import (
	"cmp"
	"math"
	"math/big"
	"strings"
	"testing"

	"abacist/api"
	"abacist/fagg"
)

// meets checks whether v meets a condition.
func meets(t *testing.T, answer bool, v, condition api.Value) {
	t.Helper()
	if got := fagg.Meets(v, condition); got != answer {
		t.Errorf("Meets of %#v and %#v: %t", v, condition, got)
	}
}

// samples are values of all kinds but faults.
func samples() []api.Value {
	return []api.Value{blank, num(0, 1), num(1, 1), num(-1, 1), num(1, 2), num(1, 3), num(5, 1), num(10, 1), whole(ones(256)), text(""), text("0"), text("5"), text("a"), text("A"), text("ab"), text("TRUE"), text(">5"), text("=5"), text("=="), text(" 5"), text("1/0"), truth(true), truth(false)}
}

// behind are texts that stand behind signs, each with what it is read as.
func behind() map[string]api.Value {
	return map[string]api.Value{"": blank, "5": num(5, 1), "05": num(5, 1), "-1": num(-1, 1), "0": num(0, 1), "0.5": num(1, 2), "2/4": num(1, 2), "1/3": num(1, 3), "a": text("a"), "b": text("b"), "A": text("A"), " 5": text(" 5"), "5 ": text("5 "), "1/0": text("1/0"), "TRUE": text("TRUE"), "FALSE": text("FALSE"), "#N/A": text("#N/A"), "--1": text("--1"), "1e3": text("1e3"), "*": text("*"), "a*": text("a*"), "?": text("?"), "'5": text("'5"), "a=b": text("a=b"), "5>4": text("5>4"), "1" + strings.Repeat("0", 80): text("1" + strings.Repeat("0", 80))}
}

// order is -1, 0 or 1 of two values of one kind.
func order(a, b api.Value) int {
	switch a.Kind {
	case api.Number:
		return value(a).Cmp(value(b))
	case api.Text:
		return cmp.Compare(a.Text, b.Text)
	case api.Truth:
		if a.Truth == b.Truth {
			return 0
		}
		if b.Truth {
			return -1
		}
		return 1
	}
	return 0
}

// holds is whether a sign holds of v and another value.
func holds(sign string, v, other api.Value) bool {
	if v.Kind != other.Kind {
		return sign == "<>"
	}
	n := order(v, other)
	return map[string]bool{"<=": n <= 0, ">=": n >= 0, "<>": n != 0, "<": n < 0, ">": n > 0, "=": n == 0}[sign]
}

// P19.2: each sign, and none, ahead of texts that are numbers, texts, and nothing.
func TestSigns(t *testing.T) {
	for s, other := range behind() {
		for _, v := range samples() {
			for _, sign := range []string{"<=", ">=", "<>", "<", ">", "="} {
				meets(t, holds(sign, v, other), v, text(sign+s))
			}
			if s != "" {
				meets(t, holds("=", v, other), v, text(s))
			}
		}
	}
}

// P19.2: the example, and some whose answers are written out.
func TestMeets(t *testing.T) {
	for _, c := range []struct {
		v         api.Value
		condition string
		answer    bool
	}{
		{num(5, 1), ">3", true}, {num(3, 1), ">3", false}, {num(3, 1), ">=3", true}, {num(2, 1), ">=3", false}, {num(3, 1), "<=3", true}, {num(4, 1), "<=3", false}, {num(2, 1), "<3", true}, {num(3, 1), "<3", false}, {num(3, 1), "=3", true}, {num(3, 1), "3", true}, {num(4, 1), "=3", false}, {num(4, 1), "<>3", true}, {num(3, 1), "<>3", false}, {num(-1, 3), "-1/3", true}, {num(-1, 3), "<-1/4", true},
		{text("5"), ">3", false}, {text("3"), "3", false}, {text("3"), "=3", false}, {text("3"), "<>3", true}, {truth(true), "<>3", true}, {truth(true), "1", false}, {truth(true), "TRUE", false}, {text("TRUE"), "TRUE", true}, {blank, "0", false}, {blank, "<1", false}, {blank, "<>0", true},
		{text("b"), ">a", true}, {text("a"), ">a", false}, {text("a"), ">=a", true}, {text("a"), "<b", true}, {text("A"), "a", false}, {text("A"), "<a", true}, {text("aa"), ">a", true}, {num(5, 1), "<a", false}, {num(5, 1), "<>a", true}, {blank, "<a", false}, {blank, "<>a", true},
		// What is behind a sign begins with none.
		{text(">3"), "=>3", true}, {num(5, 1), "=>3", false}, {text("=3"), "==3", true}, {num(3, 1), "==3", false}, {text("<"), "=<", true}, {num(3, 1), "<=>4", false}, {text("!"), "<=>4", true}, {text(">5"), "<>>5", false}, {num(6, 1), "<>>5", true}, {text("<1"), "><", true}, {text("="), ">==", true}, {num(1, 1), " >0", false}, {text(" >0"), " >0", true}, {text("> 0"), "=> 0", true}, {num(1, 1), "> 0", false},
		// Nothing is behind a sign: Blank.
		{blank, "=", true}, {blank, "<=", true}, {blank, ">=", true}, {blank, "<>", false}, {blank, "<", false}, {blank, ">", false}, {text(""), "=", false}, {num(0, 1), "=", false}, {truth(false), "=", false}, {text(""), "<>", true}, {num(0, 1), "<>", true}, {truth(false), "<>", true}, {text("a"), ">", false}, {num(1, 1), ">=", false},
		// Neither a sign nor anything else: the empty text.
		{text(""), "", true}, {blank, "", false}, {num(0, 1), "", false}, {text("a"), "", false}, {truth(false), "", false},
	} {
		meets(t, c.answer, c.v, text(c.condition))
	}
}

// P19.2: a condition that is no text is held to be equal.
func TestOtherConditions(t *testing.T) {
	for _, condition := range []api.Value{blank, num(0, 1), num(5, 1), num(1, 3), truth(true), truth(false)} {
		for _, v := range samples() {
			meets(t, v == condition, v, condition)
		}
	}
}

// P19.2: what has a fault, or can not be, meets nothing, and nothing meets it.
func TestNothingMet(t *testing.T) {
	bad := []api.Value{{Kind: -1}, {Kind: 5}, {Kind: math.MinInt}, {Kind: api.Number}, {Kind: api.Number, Num: api.Rat{Num: "\x05", Den: "\x00\x01"}}, {Text: "a"}, {Truth: true}, {Kind: api.Truth, Fault: 1}, fault(0), fault(8), text("a\n"), text("é"), text("<>\x00"), text(strings.Repeat("a", 201)), {Kind: api.Text, Text: "<>5", Truth: true}, {Kind: api.Text, Fault: 3}}
	for n := 1; n <= 7; n++ {
		bad = append(bad, fault(n))
	}
	conditions := append(samples(), text("<>5"), text("<>"), text("<>a"), text("="), text("<="), text("<>#N/A"), text("#N/A"), text("=#N/A"))
	for _, v := range bad {
		meets(t, false, v, v)
		for _, condition := range conditions {
			meets(t, false, v, condition)
			meets(t, false, condition, v)
		}
	}
}

// P19.2: texts of 200 bytes can be conditions.
func TestLongCondition(t *testing.T) {
	long := strings.Repeat("a", 200)
	meets(t, true, text(long), text(long))
	meets(t, true, text(long[1:]), text("="+long[1:]))
	meets(t, false, text(long), text("="+long[1:]))
	meets(t, true, text(long), text(">"+long[1:]))
	meets(t, true, num(7, 1), text(strings.Repeat("0", 199)+"7"))
	most := new(big.Rat).SetInt(ones(256))
	meets(t, true, number(most), text(most.Num().String()))
	meets(t, true, number(most), text(">="+most.Num().String()))
}

// P19.1: COUNTIF counts what Meets tells.
func TestCountif(t *testing.T) {
	all := append(samples(), fault(1), fault(6))
	for _, sign := range []string{"", "<=", ">=", "<>", "<", ">", "="} {
		for s := range behind() {
			n := int64(0)
			for _, v := range all {
				if fagg.Meets(v, text(sign+s)) {
					n++
				}
			}
			want(t, num(n, 1), "COUNTIF", column(all...), single(text(sign+s)))
			want(t, num(n, 1), "COUNTIF", row(all...), column(text(sign+s)))
		}
	}
	want(t, num(1, 1), "COUNTIF", column(all...), single(blank))
	want(t, num(1, 1), "COUNTIF", column(all...), column(truth(false)))
	want(t, num(1, 1), "COUNTIF", single(num(5, 1)), single(text(">3")))
	want(t, num(0, 1), "COUNTIF", single(text("5")), single(text(">3")))
	want(t, num(3, 1), "COUNTIF", column(nums(1, 5, 5, 7, 5)...), single(num(5, 1)))
	want(t, fault(api.FaultValue), "COUNTIF", column(nums(1)...), column(nums(1, 2)...))
	want(t, fault(api.FaultValue), "COUNTIF", column(nums(1)...), row(text("<>"), text("<>")))
}

// P19.1: SUMIF and AVERAGEIF, of the values that are tested.
func TestOfTested(t *testing.T) {
	l := column(num(1, 1), num(5, 1), text("7"), blank, truth(true), num(5, 1), text("a"), num(-4, 1))
	for _, c := range []struct{ condition, sum, average api.Value }{
		{text(">0"), num(11, 1), num(11, 3)}, {text(">=5"), num(10, 1), num(5, 1)}, {num(5, 1), num(10, 1), num(5, 1)}, {text("<>5"), num(-3, 1), num(-3, 2)}, {text("<0"), num(-4, 1), num(-4, 1)}, {text("<>x"), num(7, 1), num(7, 4)}, {text("<>"), num(7, 1), num(7, 4)},
		{text(">9"), num(0, 1), fault(1)}, {text("7"), num(0, 1), fault(1)}, {text("=a"), num(0, 1), fault(1)}, {blank, num(0, 1), fault(1)}, {truth(true), num(0, 1), fault(1)}, {text(""), num(0, 1), fault(1)}, {text("="), num(0, 1), fault(1)},
		{fault(3), fault(3), fault(3)},
	} {
		for _, condition := range []api.Arg{single(c.condition), column(c.condition)} {
			want(t, c.sum, "SUMIF", l, condition)
			want(t, c.average, "AVERAGEIF", l, condition)
			want(t, c.sum, "SUMIF", l, condition, l)
			want(t, c.average, "AVERAGEIF", l, condition, l)
		}
	}
	want(t, num(0, 1), "SUMIF", single(text("5")), single(text("=5")))
	want(t, num(5, 1), "SUMIF", single(num(5, 1)), single(text("=5")))
}

// P19.1: SUMIF and AVERAGEIF, of values at the same places as those that are tested.
func TestOfOthers(t *testing.T) {
	tested := column(text("a"), text("b"), text("a"), text("a"), blank, text("a"))
	from := column(num(1, 1), num(10, 1), num(100, 1), text("1000"), num(10000, 1), blank)
	for _, c := range []struct{ condition, sum, average api.Value }{
		{text("a"), num(101, 1), num(101, 2)}, {text("b"), num(10, 1), num(10, 1)}, {text("<>a"), num(10010, 1), num(5005, 1)}, {text("="), num(10000, 1), num(10000, 1)}, {blank, num(10000, 1), num(10000, 1)}, {text(">=a"), num(111, 1), num(37, 1)}, {text("c"), num(0, 1), fault(1)}, {num(1, 1), num(0, 1), fault(1)},
	} {
		want(t, c.sum, "SUMIF", tested, single(c.condition), from)
		want(t, c.average, "AVERAGEIF", tested, single(c.condition), from)
	}
	want(t, num(0, 1), "SUMIF", single(text("a")), single(text("a")), single(text("5")))
	want(t, num(5, 1), "SUMIF", single(text("a")), single(text("a")), column(num(5, 1)))
	want(t, fault(api.FaultDiv), "AVERAGEIF", single(text("a")), single(text("a")), single(truth(true)))
}

// P19.1: SUMIF and AVERAGEIF, of arguments of unlike shape, and of conditions with more values.
func TestUnlike(t *testing.T) {
	square := api.Arg{Vals: nums(1, 2, 3, 4), Cols: 2, Area: true}
	a := column(nums(1, 2, 3, 4)...)
	for _, name := range []string{"SUMIF", "AVERAGEIF"} {
		for _, other := range []api.Arg{square, row(nums(1, 2, 3, 4)...), column(nums(1, 2, 3)...), column(nums(1, 2, 3, 4, 5)...), single(num(1, 1))} {
			want(t, fault(api.FaultValue), name, a, single(text("9")), other)
			want(t, fault(api.FaultValue), name, other, single(text("9")), a)
			want(t, fault(api.FaultNA), name, other, single(fault(api.FaultNA)), a)
		}
		want(t, fault(api.FaultNA), name, a, single(text("9")), single(fault(api.FaultNA)))
		want(t, fault(api.FaultValue), name, a, column(nums(1, 2)...))
		want(t, fault(api.FaultValue), name, a, a)
		want(t, fault(api.FaultValue), name, a, row(nums(1, 2)...), a)
		want(t, fault(api.FaultNum), name, a, row(num(1, 1), fault(api.FaultNum)), a)
		want(t, fault(api.FaultNum), name, a, row(nums(1, 2)...), column(num(1, 1), fault(api.FaultNum)))
	}
	want(t, num(9, 1), "SUMIF", square, single(text(">1")), api.Arg{Vals: nums(1, 2, 3, 4), Cols: 2, Area: true, Col: 7, Row: 7})
}
