package ledger

import (
	"cubit/api"
	"cubit/house"
)

// Checked is an entry that is right in a house, with its unit, as it was read there.
type Checked struct {
	over  *house.House
	entry api.Entry
	unit  api.Unit
}

// Check: an entry, as Add checks it, but for the ledger's room: for layers that check many at one time.
func Check(h *house.House, e api.Entry) (*Checked, api.Errno) {
	if h == nil {
		return nil, api.ErrNil
	}
	unit, why := checked(h, e)
	if why != api.OK {
		return nil, why
	}
	return &Checked{h, copied(e), unit}, api.OK
}

// AddChecked: what Add does, of an entry that Check has answered: ErrArg, if that was in another house than the ledger's; ErrFull.
func (l *Ledger) AddChecked(c *Checked) (int, api.Errno) {
	switch {
	case l == nil:
		return 0, api.ErrNil
	case c == nil || c.over != l.over:
		return 0, api.ErrArg
	case l.isFull():
		return 0, api.ErrFull
	}
	return l.enter(c.entry, c.unit, 0), api.OK
}
