package ftext_test

import (
	"math/big"
	"strings"
	"testing"

	"abacist/api"
	"abacist/ftext"
)

// wrong is the answer of what does not fit.
var wrong = fault(api.FaultValue)

// samples are texts of all kinds: empty ones, such that overlap themselves, blanks, digits, all bytes, and the longest ones.
func samples() []string {
	var all strings.Builder
	for b := byte(32); b <= 126; b++ {
		all.WriteByte(b)
	}
	return []string{"", " ", "a", "A", "aa", "aaa", "aaaa", "aaaaa", "ab", "aba", "ababa", "abab", "aXbX", "abcd", "  a  b ", "12", "1/3", "'", "\"", "@`[{", "a1b2", "TRUE", "#N/A", all.String(), strings.Repeat("ab", 100), strings.Repeat("a", 199), strings.Repeat("a", 200)}
}

// counts are counts on both sides of 0, and of all texts' ends.
func counts() []int {
	l := []int{-1000000, -2, 9, 10, 94, 95, 96, 97, 198, 199, 200, 201, 202, 65536, 999999, 1000000}
	for n := -1; n <= 7; n++ {
		l = append(l, n)
	}
	return l
}

// P21.1: LEN.
func TestLen(t *testing.T) {
	for _, s := range samples() {
		want(t, n(len(s)), "LEN", text(s))
	}
}

// P21.1, P21.2: LEFT and RIGHT of counts on all sides; both together are the text.
func TestLeftAndRight(t *testing.T) {
	for _, s := range samples() {
		for _, c := range counts() {
			if c < 0 {
				want(t, wrong, "LEFT", text(s), n(c))
				want(t, wrong, "RIGHT", text(s), n(c))
				continue
			}
			first, last := "", ""
			for i := range len(s) {
				if i < c {
					first += s[i : i+1]
				}
				if i >= len(s)-c {
					last += s[i : i+1]
				}
			}
			want(t, text(first), "LEFT", text(s), n(c))
			want(t, text(last), "RIGHT", text(s), n(c))
			left := ftext.Do("LEFT", text(s), n(c))
			want(t, text(s), "CONCAT", left, ftext.Do("RIGHT", text(s), n(len(s)-len(left.Text))))
		}
		want(t, ftext.Do("LEFT", text(s), n(1)), "LEFT", text(s))
		want(t, ftext.Do("RIGHT", text(s), n(1)), "RIGHT", text(s))
	}
	want(t, text("a"), "LEFT", text("abc"))
	want(t, text("c"), "RIGHT", text("abc"))
	want(t, text(""), "LEFT", text("abc"), num(-1, 2))
	want(t, text(""), "RIGHT", text("abc"), num(-1, 2))
	want(t, wrong, "LEFT", text("abc"), num(-3, 2))
	want(t, wrong, "RIGHT", text("abc"), num(-3, 2))
}

// cut are what is in front of n bytes from place i on, these, and what is behind them.
func cut(s string, i, n int) (front, part, behind string) {
	for at := 1; at <= len(s); at++ {
		b := s[at-1 : at]
		switch {
		case at < i:
			front += b
		case at-i < n:
			part += b
		default:
			behind += b
		}
	}
	return front, part, behind
}

// P21.1: MID and REPLACE at all places.
func TestMidAndReplace(t *testing.T) {
	for _, s := range samples() {
		for _, i := range counts() {
			for _, many := range counts() {
				if i < 1 || many < 0 {
					want(t, wrong, "MID", text(s), n(i), n(many))
					want(t, wrong, "REPLACE", text(s), n(i), n(many), text("x"))
					continue
				}
				front, part, behind := cut(s, i, many)
				want(t, text(part), "MID", text(s), n(i), n(many))
				for _, u := range []string{"", "x", s} {
					want(t, answer(front+u+behind), "REPLACE", text(s), n(i), n(many), text(u))
				}
			}
		}
	}
	want(t, text("bc"), "MID", text("abcd"), n(2), n(2))
	want(t, text("a--d"), "REPLACE", text("abcd"), n(2), n(2), text("--"))
	want(t, text("abcd-"), "REPLACE", text("abcd"), n(9), n(2), text("-"))
	want(t, wrong, "MID", text("abcd"), num(1, 2), n(1))
	want(t, text("a"), "MID", text("abcd"), num(3, 2), num(3, 2))
	want(t, text(""), "MID", text("abcd"), n(1), num(-1, 2))
	want(t, wrong, "REPLACE", text("abcd"), num(1, 2), n(1), text(""))
	want(t, text("xabcd"), "REPLACE", text("abcd"), n(1), num(-1, 2), text("x"))
}

// P21.1: REPLACE with answers of just the greatest length, and of one byte more.
func TestLongReplace(t *testing.T) {
	long := strings.Repeat("a", 199)
	want(t, text(long+"b"), "REPLACE", text(long), n(200), n(0), text("b"))
	want(t, wrong, "REPLACE", text(long), n(200), n(0), text("bb"))
	want(t, text("bb"+long[1:]), "REPLACE", text(long), n(1), n(1), text("bb"))
	want(t, wrong, "REPLACE", text(long), n(1), n(1), text("bbb"))
	want(t, text(long), "REPLACE", text(long), n(1), n(1000000), text(long))
}

// P21.3: REPLACE of nothing by a text, there where MID finds it again, keeps all else.
func TestReplaceOfNothing(t *testing.T) {
	for _, s := range samples() {
		for i := 1; i <= len(s)+1; i++ {
			for _, u := range []string{"", "x", "ab", "aa"} {
				if len(s)+len(u) > 200 {
					want(t, wrong, "REPLACE", text(s), n(i), n(0), text(u))
					continue
				}
				got := ftext.Do("REPLACE", text(s), n(i), n(0), text(u))
				want(t, text(u), "MID", got, n(i), n(len(u)))
				want(t, text(s), "REPLACE", got, n(i), n(len(u)), text(""))
			}
		}
	}
}

// P21.1, P21.4: UPPER and LOWER of all bytes; UPPER of LOWER is UPPER.
func TestUpperAndLower(t *testing.T) {
	for b := byte(32); b <= 126; b++ {
		capital, small := b, b
		if b >= 97 && b <= 122 {
			capital = b - 32
		}
		if b >= 65 && b <= 90 {
			small = b + 32
		}
		want(t, text(string(rune(capital))), "UPPER", text(string(rune(b))))
		want(t, text(string(rune(small))), "LOWER", text(string(rune(b))))
	}
	want(t, text("AB1 C-D"), "UPPER", text("aB1 c-D"))
	want(t, text("ab1 c-d"), "LOWER", text("aB1 c-D"))
	for _, s := range samples() {
		upper := ftext.Do("UPPER", text(s))
		want(t, upper, "UPPER", ftext.Do("LOWER", text(s)))
		want(t, upper, "UPPER", ftext.Do("PROPER", text(s)))
		want(t, n(len(s)), "LEN", upper)
		if strings.ContainsAny(upper.Text, "abcdefghijklmnopqrstuvwxyz") {
			t.Errorf("UPPER of %q: %q", s, upper.Text)
		}
	}
}

// P21.1: PROPER: a letter is a capital one just behind what is no letter, whatever byte that is.
func TestProper(t *testing.T) {
	for s, proper := range map[string]string{"": "", "a": "A", "A": "A", "ab": "Ab", "AB": "Ab", "aB cD": "Ab Cd", "a1b2": "A1B2", "1a": "1A", " a": " A", "  ab  ": "  Ab  ", "it's": "It'S", "x-y_z": "X-Y_Z", "mcDONALD": "Mcdonald", "TRUE": "True", "12": "12", "a b c": "A B C"} {
		want(t, text(proper), "PROPER", text(s))
	}
	for b := byte(32); b <= 126; b++ {
		s := string(rune(b))
		if strings.ToUpper(s) != strings.ToLower(s) {
			want(t, text(strings.ToUpper(s)+strings.ToLower(s)+"b"), "PROPER", text(s+s+"B"))
			continue
		}
		want(t, text("A"+s+"Ab"+s), "PROPER", text("a"+s+"aB"+s))
		want(t, text(s+"Z"+s+"Za"), "PROPER", text(s+"z"+s+"ZA"))
	}
	for b := range 26 {
		letter := string(rune('a' + b))
		want(t, text("1"+strings.ToUpper(letter)+letter), "PROPER", text("1"+letter+strings.ToUpper(letter)))
	}
}

// P21.1: TRIM.
func TestTrim(t *testing.T) {
	for s, trimmed := range map[string]string{"": "", " ": "", "   ": "", "a": "a", " a": "a", "a ": "a", "  a  ": "a", "a b": "a b", "a  b": "a b", "   a   b c    d ": "a b c d", "_ a": "_ a", "' '": "' '", strings.Repeat(" ", 200): "", strings.Repeat(" a", 100): strings.TrimSpace(strings.Repeat(" a", 100)), strings.Repeat("  ", 99) + "ab": "ab"} {
		want(t, text(trimmed), "TRIM", text(s))
		want(t, text(trimmed), "TRIM", text(trimmed))
	}
}

// P21.1: CONCAT of one text to twenty, up to the greatest length.
func TestConcat(t *testing.T) {
	all := ""
	var l []api.Value
	for i := range 20 {
		s := strings.Repeat(string(rune('a'+i)), i%4)
		all += s
		l = append(l, text(s))
		want(t, text(all), "CONCAT", l...)
	}
	long := strings.Repeat("abcde", 40)
	for i := range 201 {
		want(t, text(long), "CONCAT", text(long[:i]), text(long[i:]))
		want(t, wrong, "CONCAT", text(long[:i]), text(long[i:]), text("x"))
		want(t, wrong, "CONCAT", text(long[:i]), text("x"), text(long[i:]))
	}
	want(t, wrong, "CONCAT", text(long), text(long))
	want(t, fault(1), "CONCAT", text(long), text(long), fault(1))
	want(t, text(""), "CONCAT", text(""), text(""))
}

// P21.1: REPT, up to the greatest length.
func TestRept(t *testing.T) {
	for _, s := range samples() {
		for _, c := range counts() {
			switch {
			case c < 0, len(s)*c > 200:
				want(t, wrong, "REPT", text(s), n(c))
			default:
				all := ""
				for range c {
					all += s
				}
				want(t, text(all), "REPT", text(s), n(c))
			}
		}
	}
	want(t, text(strings.Repeat("abc", 66)), "REPT", text("abc"), num(133, 2))
	want(t, wrong, "REPT", text("abc"), n(67))
	want(t, wrong, "REPT", text("a"), n(201))
	want(t, text(""), "REPT", text(""), n(1000000))
	want(t, text(""), "REPT", text("a"), num(-1, 2))
	want(t, wrong, "REPT", text(""), n(-1))
}

// P21.1: EXACT.
func TestExact(t *testing.T) {
	for i, s := range samples() {
		for j, u := range samples() {
			want(t, truth(i == j), "EXACT", text(s), text(u))
		}
	}
	want(t, truth(false), "EXACT", text("a"), text("A"))
	want(t, truth(false), "EXACT", text("a"), text("a "))
}

// found is the place of the first s in t from place i on; 0, if there is none.
func found(s, t string, i int) int {
	for ; i >= 1 && i+len(s) <= len(t)+1; i++ {
		if _, part, _ := cut(t, i, len(s)); part == s {
			return i
		}
	}
	return 0
}

// P21.1: FIND, from all places on, also of the empty text.
func TestFind(t *testing.T) {
	for _, u := range samples() {
		for _, s := range []string{"", "a", "A", "b", "aa", "aaa", "ba", "bab", "X", " ", "~", "z", u, u + "a"} {
			if len(s) > 200 {
				continue
			}
			for _, i := range append(counts(), len(u), len(u)+1, len(u)+2) {
				place := wrong
				if at := found(s, u, i); at > 0 {
					place = n(at)
				}
				want(t, place, "FIND", text(s), text(u), n(i))
				if i == 1 {
					want(t, place, "FIND", text(s), text(u))
				}
			}
		}
	}
	for i, place := range map[int]api.Value{-1: wrong, 0: wrong, 1: n(1), 2: n(2), 3: n(3), 4: n(4), 5: wrong} {
		want(t, place, "FIND", text(""), text("abc"), n(i))
	}
	want(t, n(1), "FIND", text(""), text(""))
	want(t, wrong, "FIND", text(""), text(""), n(2))
	want(t, n(3), "FIND", text("aa"), text("aaaa"), num(7, 2))
	want(t, wrong, "FIND", text("a"), text("a"), num(1, 2))
	want(t, wrong, "FIND", text("a"), text("A"))
}

// substituted is s with u in place of each t that none in front of it overlaps, or of the k-th one, if k is not 0.
func substituted(s, t, u string, k int) string {
	made, nth := "", 0
	for s != "" {
		if t == "" || len(s) < len(t) || s[:len(t)] != t {
			made, s = made+s[:1], s[1:]
			continue
		}
		nth++
		if k == 0 || nth == k {
			made += u
		} else {
			made += t
		}
		s = s[len(t):]
	}
	return made
}

// P21.1: SUBSTITUTE of each, and of the k-th.
func TestSubstitute(t *testing.T) {
	for _, s := range samples() {
		for _, of := range []string{"", "a", "b", "aa", "aaa", "aba", "ab", "X", " ", "A", "xyz", s} {
			for _, u := range []string{"", "a", "-", "aa", "aaaa", of} {
				want(t, answer(substituted(s, of, u, 0)), "SUBSTITUTE", text(s), text(of), text(u))
				for _, k := range counts() {
					if k < 1 {
						want(t, wrong, "SUBSTITUTE", text(s), text(of), text(u), n(k))
						continue
					}
					want(t, answer(substituted(s, of, u, k)), "SUBSTITUTE", text(s), text(of), text(u), n(k))
				}
			}
		}
	}
	for _, c := range []struct {
		s, t, u string
		k       int
		made    string
	}{
		{"aXbX", "X", "-", 1, "a-bX"}, {"aXbX", "X", "-", 2, "aXb-"}, {"aXbX", "X", "-", 3, "aXbX"}, {"aaaaa", "aa", "b", 2, "aaba"}, {"aaaaa", "aa", "b", 3, "aaaaa"}, {"ababa", "aba", "x", 1, "xba"}, {"ababa", "aba", "x", 2, "ababa"}, {"", "a", "b", 1, ""}, {"abc", "", "x", 1, "abc"}, {"abc", "abc", "", 1, ""},
	} {
		want(t, text(c.made), "SUBSTITUTE", text(c.s), text(c.t), text(c.u), n(c.k))
	}
	want(t, text("bba"), "SUBSTITUTE", text("aaaaa"), text("aa"), text("b"))
	want(t, text("aXb-"), "SUBSTITUTE", text("aXbX"), text("X"), text("-"), num(5, 2))
	want(t, text("abc"), "SUBSTITUTE", text("abc"), text(""), text("x"))
	want(t, wrong, "SUBSTITUTE", text("abc"), text(""), text("x"), n(0))
	want(t, wrong, "SUBSTITUTE", text("abc"), text("a"), text("x"), num(1, 2))
}

// P21.1: SUBSTITUTE with answers of just the greatest length, and of one byte more.
func TestLongSubstitute(t *testing.T) {
	s := strings.Repeat("aa", 50)
	want(t, text(strings.Repeat("b", 200)), "SUBSTITUTE", text(s), text("a"), text("bb"))
	want(t, wrong, "SUBSTITUTE", text(s+"a"), text("a"), text("bb"))
	want(t, wrong, "SUBSTITUTE", text(s), text("a"), text("bbb"))
	want(t, text(s[:99]+strings.Repeat("b", 101)), "SUBSTITUTE", text(s), text("a"), text(strings.Repeat("b", 101)), n(100))
	want(t, wrong, "SUBSTITUTE", text(s), text("a"), text(strings.Repeat("b", 102)), n(100))
}

// P21.1: VALUE reads what package numtext reads.
func TestValue(t *testing.T) {
	for s, v := range map[string]api.Value{"0": n(0), "-0": n(0), "12": n(12), "-12": n(-12), "007": n(7), "1.50": num(3, 2), "-0.25": num(-1, 4), "2/6": num(1, 3), "-6/4": num(-3, 2), "0/5": n(0), "": wrong, " 1": wrong, "1 ": wrong, "a": wrong, "TRUE": wrong, "#N/A": wrong, "+1": wrong, "1.": wrong, ".5": wrong, "1/0": wrong, "1/": wrong, "--1": wrong, "1e3": wrong, "1/2/3": wrong, strings.Repeat("0", 199) + "7": n(7), "1" + strings.Repeat("0", 78): wrong} {
		want(t, v, "VALUE", text(s))
	}
	most := new(big.Rat).SetInt(ones(256))
	want(t, number(most), "VALUE", text(most.Num().String()))
	want(t, wrong, "VALUE", text(new(big.Int).Add(most.Num(), big.NewInt(1)).String()))
	for _, v := range []api.Value{n(7), num(-1, 3), num(1, 8), number(most), number(new(big.Rat).Inv(most))} {
		want(t, v, "VALUE", v)
	}
	for _, v := range []api.Value{blank, truth(true), truth(false)} {
		want(t, wrong, "VALUE", v)
	}
}

// P21.1: CHAR and CODE of all bytes, and of those that texts can not have.
func TestCharAndCode(t *testing.T) {
	for c := -300; c <= 1000; c++ {
		if c < 32 || c > 126 {
			want(t, wrong, "CHAR", n(c))
			continue
		}
		s := text(string(rune(c)))
		want(t, s, "CHAR", n(c))
		want(t, s, "CHAR", num(int64(2*c+1), 2))
		want(t, n(c), "CODE", s)
		want(t, n(c), "CODE", text(s.Text+"a"))
		want(t, n(c), "CODE", text(s.Text+"~ "))
	}
	want(t, wrong, "CHAR", num(63, 2))
	want(t, text("~"), "CHAR", num(253, 2))
	want(t, wrong, "CHAR", n(1000000))
	want(t, wrong, "CODE", text(""))
	want(t, wrong, "CODE", blank)
	want(t, n('T'), "CODE", truth(true))
	want(t, n('-'), "CODE", n(-5))
}

// rounded is x with n places, in digits; FaultNum, if it has too many bits.
func rounded(x *big.Rat, n int) api.Value {
	s := x.FloatString(n)
	y, _ := new(big.Rat).SetString(s)
	if y.Num().BitLen() > api.MaxBits || y.Denom().BitLen() > api.MaxBits {
		return fault(api.FaultNum)
	}
	if y.Sign() == 0 {
		s = strings.TrimPrefix(s, "-")
	}
	return text(s)
}

// P21.1: FIXED, to all places, also of what has too many bits then.
func TestFixed(t *testing.T) {
	most := ones(256)
	l := []*big.Rat{big.NewRat(0, 1), new(big.Rat).SetInt(most), new(big.Rat).SetFrac(big.NewInt(1), most), new(big.Rat).SetFrac(most, big.NewInt(2)), new(big.Rat).SetFrac(most, big.NewInt(7)), new(big.Rat).SetFrac(ones(200), big.NewInt(7)), new(big.Rat).SetFrac(most, ones(255))}
	for _, a := range []int64{1, 2, 5, 7, 15, 25, 49, 995, 999, 1234, 1250, 12345, 99995} {
		for _, b := range []int64{1, 2, 3, 7, 8, 10, 100, 1000, 100000} {
			l = append(l, big.NewRat(a, b))
		}
	}
	full := 0
	for _, x := range l {
		for _, sign := range []int64{1, -1} {
			x := new(big.Rat).Mul(x, big.NewRat(sign, 1))
			for places := range 21 {
				v := rounded(x, places)
				if v.Kind == api.Fault {
					full++
				}
				want(t, v, "FIXED", number(x), n(places))
			}
			want(t, rounded(x, 2), "FIXED", number(x))
		}
	}
	if full == 0 {
		t.Error("no number with too many bits was tried")
	}
}

// P21.1: FIXED: counts at both ends and past them, and numbers of all kinds.
func TestFixedPlaces(t *testing.T) {
	for _, c := range []struct {
		x, n api.Value
		made string
	}{
		{num(5, 2), n(2), "2.50"}, {num(5, 2), n(0), "3"}, {num(-5, 2), n(0), "-3"}, {num(5, 2), n(1), "2.5"}, {num(5, 2), n(20), "2.50000000000000000000"}, {n(7), n(20), "7.00000000000000000000"}, {n(0), n(0), "0"}, {n(0), n(3), "0.000"}, {num(-1, 1000), n(2), "0.00"}, {num(-1, 3), n(0), "0"}, {num(-1, 2), n(0), "-1"}, {num(1, 3), n(20), "0.33333333333333333333"}, {num(2, 3), n(1), "0.7"}, {num(-1, 20), n(1), "-0.1"}, {num(999, 1000), n(2), "1.00"}, {num(1234, 1), n(0), "1234"}, {num(1, 8), num(41, 20), "0.13"}, {num(5, 2), num(-1, 2), "3"}, {num(5, 2), num(41, 2), "2.50000000000000000000"}, {blank, n(1), "0.0"}, {truth(true), n(1), "1.0"}, {text("1/3"), n(4), "0.3333"}, {num(5, 2), blank, "3"}, {num(5, 2), text("3"), "2.500"},
	} {
		want(t, text(c.made), "FIXED", c.x, c.n)
	}
	want(t, text("2.50"), "FIXED", num(5, 2))
	want(t, text("0.00"), "FIXED", blank)
	for _, places := range []int{-1, -2, -60, 21, 22, 60, 61, 1000000, -1000000} {
		want(t, wrong, "FIXED", num(5, 2), n(places))
		want(t, wrong, "FIXED", number(new(big.Rat).SetFrac(ones(256), big.NewInt(7))), n(places))
	}
	want(t, fault(api.FaultNum), "FIXED", number(new(big.Rat).SetFrac(ones(256), big.NewInt(7))))
}
