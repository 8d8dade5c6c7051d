package ftext

import (
	"strings"

	"abacist/api"
	"abacist/coerce"
	"abacist/numtext"
	"abacist/rat"
	"abacist/round"
	"abacist/value"
)

// Bytes that texts have: from the first one to the last one.
const (
	firstByte = 32
	lastByte  = 126
)

// wrong is what is answered of texts and counts that don't fit.
func wrong() api.Value { return value.Fault(api.FaultValue) }

// number is n as a value.
func number(n int) api.Value { return value.Num(rat.Of(int64(n))) }

// ofText is a function of one text.
func ofText(name string, l []api.Value) api.Value {
	var s string
	return once(l, func() api.Value {
		switch name {
		case "LEN":
			return number(len(s))
		case "UPPER":
			return value.Text(strings.ToUpper(s))
		case "LOWER":
			return value.Text(strings.ToLower(s))
		case "PROPER":
			return value.Text(proper(s))
		case "TRIM":
			return value.Text(strings.Join(strings.Fields(s), " "))
		case "VALUE":
			return read(s)
		case "CODE":
			return code(s)
		}
		return value.Fault(api.FaultName)
	}, asText(&s))
}

// ofTextAndCount is a function of a text and a count, which is 1, if there is none.
func ofTextAndCount(name string, l []api.Value) api.Value {
	s, n := "", 1
	return once(l, func() api.Value {
		switch {
		case n < 0:
			return wrong()
		case name == "REPT":
			return repeated(s, n)
		case name == "LEFT":
			return value.Text(s[:min(n, len(s))])
		}
		return value.Text(s[len(s)-min(n, len(s)):])
	}, asText(&s), asCount(&n))
}

// ofPart is MID, n bytes of s from place i on; or REPLACE, which puts u in place of them.
func ofPart(name string, l []api.Value) api.Value {
	var s, u string
	var i, n int
	return once(l, func() api.Value {
		if i < 1 || n < 0 {
			return wrong()
		}
		from := min(i-1, len(s))
		to := min(from+n, len(s))
		if name == "MID" {
			return value.Text(s[from:to])
		}
		return value.Text(s[:from] + u + s[to:])
	}, asText(&s), asCount(&i), asCount(&n), asText(&u))
}

// ofTwo is EXACT, whether two texts are one; or FIND, where s is in t, from place i on.
func ofTwo(name string, l []api.Value) api.Value {
	var s, t string
	i := 1
	return once(l, func() api.Value {
		if name == "EXACT" {
			return value.Truth(s == t)
		}
		return found(s, t, i)
	}, asText(&s), asText(&t), asCount(&i))
}

// joined is CONCAT: texts, one behind another.
func joined(l []api.Value) api.Value {
	var all string
	return once(l, func() api.Value { return value.Text(all) }, func(v api.Value) int {
		s, fault := coerce.Text(v)
		all += s
		return fault
	})
}

// substituted is SUBSTITUTE: s with u in place of each t, or of the k-th one.
func substituted(l []api.Value) api.Value {
	var s, t, u string
	// Of no k there is one that can be.
	k := 1
	return once(l, func() api.Value {
		switch {
		case k < 1:
			return wrong()
		case t == "":
			return value.Text(s)
		case len(l) < 4:
			return value.Text(strings.ReplaceAll(s, t, u))
		}
		return value.Text(replaced(s, t, u, k))
	}, asText(&s), asText(&t), asText(&u), asCount(&k))
}

// char is CHAR: the text of one byte.
func char(l []api.Value) api.Value {
	var n int
	return once(l, func() api.Value {
		if n < firstByte || n > lastByte {
			return wrong()
		}
		return value.Text(string(rune(n)))
	}, asCount(&n))
}

// fixed is FIXED: x with just n places, which are 2, if no n is told.
func fixed(l []api.Value) api.Value {
	var x api.Rat
	n := 2
	return once(l, func() api.Value {
		// Of more places a number's text would be no digits.
		if n < 0 || n > numtext.Places {
			return wrong()
		}
		r, e := round.Half(x, n)
		if e != api.OK {
			return value.Of(r, e)
		}
		return value.Text(padded(numtext.Text(r), n))
	}, asNumber(&x), asCount(&n))
}

// read is the number that s tells; a fault, if it tells none.
func read(s string) api.Value {
	r, e := numtext.Parse(s)
	if e != api.OK {
		return wrong()
	}
	return value.Num(r)
}

// code is the number of the first byte of s; a fault, if there is none.
func code(s string) api.Value {
	if s == "" {
		return wrong()
	}
	return number(int(s[0]))
}

// proper is s with capital letters where words begin, and small ones elsewhere.
func proper(s string) string {
	bytes := []byte(strings.ToLower(s))
	inWord := false
	for i, b := range bytes {
		letter := b >= 'a' && b <= 'z'
		if letter && !inWord {
			bytes[i] = b - 'a' + 'A'
		}
		inWord = letter
	}
	return string(bytes)
}

// repeated is n times s, of an n not below 0; a fault, if that is too long.
func repeated(s string, n int) api.Value {
	// Asked ahead of making it: it might have very many bytes.
	if len(s)*n > api.MaxText {
		return wrong()
	}
	return value.Text(strings.Repeat(s, n))
}

// found is the place of the first s in t, from place i on; a fault, if there is none, or no such place.
func found(s, t string, i int) api.Value {
	if i < 1 || i > len(t)+1 {
		return wrong()
	}
	at := strings.Index(t[i-1:], s)
	if at < 0 {
		return wrong()
	}
	return number(i + at)
}

// replaced is s with u in place of the k-th t, which is not empty; s, if there are fewer.
func replaced(s, t, u string, k int) string {
	from := 0
	for {
		at := strings.Index(s[from:], t)
		if at < 0 {
			return s
		}
		from += at
		k--
		if k == 0 {
			return s[:from] + u + s[from+len(t):]
		}
		from += len(t)
	}
}

// padded is the text of a number with at most n places, with 0 behind, such that there are n.
func padded(s string, n int) string {
	if n == 0 {
		return s
	}
	whole, places, _ := strings.Cut(s, ".")
	return whole + "." + places + strings.Repeat("0", n-len(places))
}
