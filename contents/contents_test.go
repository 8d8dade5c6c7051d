package contents_test

import (
	"strings"
	"testing"

	"abacist/api"
	"abacist/contents"
	"abacist/parse"
)

// long is a formula's text of so many bytes, of 156 at least.
func long(n int) string {
	return `"` + strings.Repeat("a", 150) + `"&"` + strings.Repeat("b", n-155) + `"`
}

// made is the formula of a text.
func made(t *testing.T, text string) api.Formula {
	t.Helper()
	f, at, e := parse.Formula(text)
	if e != api.OK {
		t.Fatalf("%q: %d at %d", text, e, at)
	}
	return f
}

func TestFormula(t *testing.T) {
	for text, want := range map[string]string{"1": "=1", " 1+ 2": "=1+2", "((1)+2)*A$1": "=(1+2)*A$1", "b!B2:A1": "=b!A1:B2", "-1=2": "=-1=2", `"="`: `="="`, "#REF!": "=#REF!"} {
		if got, e := contents.Formula(made(t, text)); got != want || e != api.OK {
			t.Errorf("Formula of %q: %q, %d", text, got, e)
		}
	}
}

// A formula's own text has at most 299 bytes.
func TestFormulaLong(t *testing.T) {
	for n := 290; n <= 300; n++ {
		text := long(n)
		got, e := contents.Formula(made(t, text))
		switch {
		case n <= 299 && (got != "="+text || e != api.OK):
			t.Errorf("Formula of %d bytes: %q, %d", n, got, e)
		case n > 299 && (got != "" || e != api.ErrLong):
			t.Errorf("Formula of %d bytes: %q, %d", n, got, e)
		}
	}
	longest := api.Node{Kind: api.NdText, Text: strings.Repeat(`"`, 200)}
	if got, e := contents.Formula(api.Formula{Nodes: []api.Node{longest}}); got != "" || e != api.ErrLong {
		t.Errorf("Formula of 402 bytes: %q, %d", got, e)
	}
}

func TestFormulaNone(t *testing.T) {
	for _, f := range []api.Formula{{}, {Nodes: []api.Node{{}}}, {Nodes: []api.Node{{Kind: api.NdUnary, Op: api.OpNeg}}}} {
		if got, e := contents.Formula(f); got != "" || e != api.ErrForm {
			t.Errorf("Formula of %v: %q, %d", f, got, e)
		}
	}
}
