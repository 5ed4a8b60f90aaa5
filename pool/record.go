package pool

import (
	"cubit/api"
	"cubit/house"
	"cubit/ledger"
)

// entrant: an entry that was checked, or what is wrong with it.
type entrant struct {
	entry *ledger.Checked
	why   api.Errno
}

// lanesFor: a channel for each batch, with room for the whole of it: so no recorder waits for those ahead of it.
func lanesFor(batches [][]api.Entry) []chan entrant {
	lanes := make([]chan entrant, len(batches))
	for n, batch := range batches {
		lanes[n] = make(chan entrant, len(batch))
	}
	return lanes
}

// check: the entries of a batch, one behind the other, into its lane.
func check(h *house.House, batch []api.Entry, lane chan<- entrant) {
	for _, e := range batch {
		entry, why := ledger.Check(h, e)
		lane <- entrant{entry, why}
	}
	close(lane)
}

// enter: it stands in the ledger, if it is right: its number.
func (e entrant) enter(l *ledger.Ledger) (int, api.Errno) {
	if e.why != api.OK {
		return 0, e.why
	}
	return l.AddChecked(e.entry)
}
