package sheets

import (
	"abacist/api"
	"abacist/contents"
	"abacist/grid"
	"abacist/print"
	"abacist/ref"
	"abacist/rewrite"
)

// naming is a sheet's old name, and its fresh one.
type naming struct {
	old   string
	fresh string
}

// everywhere puts the fresh name in place of the old one in all that b, that could be, holds. ErrLong, if a formula is too long then; else ErrTwice, if a scenario has an address twice.
func (n naming) everywhere(b api.Book) api.Errno {
	for i := range b.Cells {
		if e := n.content(&b.Cells[i].Text); e != api.OK {
			return e
		}
	}
	for _, s := range b.Scens {
		for i := range s.Sets {
			if e := n.content(&s.Sets[i].Text); e != api.OK {
				return e
			}
		}
	}
	// Any formula that is too long is told ahead of any address.
	for _, s := range b.Scens {
		for i := range s.Sets {
			s.Sets[i].At = n.address(s.Sets[i].At)
		}
		if !addressesOnce(s.Sets) {
			return api.ErrTwice
		}
	}
	return api.OK
}

// content puts the fresh name into a content, if that is a formula; ErrLong, if it is too long then.
func (n naming) content(text *string) api.Errno {
	content, e := grid.Read(*text)
	if e != api.OK || !content.Formula {
		return e
	}
	f, e := rewrite.Rename(content.F, n.old, n.fresh)
	if e != api.OK {
		return e
	}
	*text, e = contents.Formula(f)
	return e
}

// address is the address of a scenario's cell with the fresh name: that of a formula that is this cell.
func (n naming) address(at string) string {
	r, _ := ref.Parse(at)
	f, _ := rewrite.Rename(api.Formula{Nodes: []api.Node{{Kind: api.NdCell, Ref: r}}}, n.old, n.fresh)
	text, _ := print.Formula(f)
	return text
}
