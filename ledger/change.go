package ledger

import (
	"slices"

	"cubit/api"
)

// none: no entry's number.
const none = 0

// list: of things that are counted from 1 on, and that come, but never go.
type list[T any] struct {
	all []T
}

func (l *list[T]) size() int      { return len(l.all) }
func (l *list[T]) at(n int) T     { return l.all[n-1] }
func (l *list[T]) put(x T)        { l.all = append(l.all, x) }
func (l *list[T]) set(n int, x T) { l.all[n-1] = x }

// first: so many of them, without room for more, so that nothing can be put behind them.
func (l *list[T]) first(n int) []T { return l.all[:n:n] }

// change: an entry that comes, with its unit; or one that is made void, by its number.
type change struct {
	entry api.Entry
	unit  api.Unit
	void  int
}

// do makes a change, which must be right. A ledger is what its changes, one behind the other, have made of it.
func (l *Ledger) do(c change) {
	l.changes.put(c)
	if c.void != none {
		e := l.entries.at(c.void)
		e.Void = true
		l.entries.set(c.void, e)
		delete(l.counting, c.void)
		return
	}
	l.entries.put(c.entry)
	l.counting[c.entry.Id] = c.unit
	delete(l.counting, c.entry.Of)
}

// enter: an entry that is right comes, perhaps in place of another one; its number.
func (l *Ledger) enter(e api.Entry, unit api.Unit, of int) int {
	e = copied(e)
	e.Id, e.Of, e.Void = l.entries.size()+1, of, false
	l.do(change{entry: e, unit: unit})
	return e.Id
}

func (l *Ledger) isFull() bool { return l.entries.size() >= api.MaxEntries }

// has: is there an entry with that number?
func (l *Ledger) has(id int) api.Errno {
	switch {
	case l == nil:
		return api.ErrNil
	case id < 1 || id > l.entries.size():
		return api.ErrEntry
	}
	return api.OK
}

// mayChange: is there one, and does it count?
func (l *Ledger) mayChange(id int) api.Errno {
	if why := l.has(id); why != api.OK {
		return why
	}
	if !l.counts(l.entries.at(id)) {
		return api.ErrVoid
	}
	return api.OK
}

func (l *Ledger) counts(e api.Entry) bool {
	_, counts := l.counting[e.Id]
	return counts
}

// those: the entries that are asked for, by their numbers, in new memory.
func (l *Ledger) those(wanted func(api.Entry) bool) []api.Entry {
	if l == nil {
		return nil
	}
	var found []api.Entry
	for _, e := range l.entries.first(l.entries.size()) {
		if wanted(e) {
			found = append(found, copied(e))
		}
	}
	return found
}

func copied(e api.Entry) api.Entry {
	e.Tags = slices.Clone(e.Tags)
	return e
}
