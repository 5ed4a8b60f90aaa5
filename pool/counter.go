package pool

import (
	"sync"
	"sync/atomic"
)

// Counter: a count that many add to.
type Counter struct {
	value atomic.Int64
	lock  sync.Mutex // held while value changes, so that most is never behind what was told
	most  int64
}

// NewCounter: none. Add: so many more. Value: how many. Most: the most that it ever was.
func NewCounter() *Counter { return &Counter{} }
func (c *Counter) Add(n int64) int64 {
	if c == nil {
		return 0
	}
	c.lock.Lock()
	defer c.lock.Unlock()
	value := c.value.Add(n)
	c.most = max(c.most, value)
	return value
}
func (c *Counter) Value() int64 {
	if c == nil {
		return 0
	}
	return c.value.Load()
}
func (c *Counter) Most() int64 {
	if c == nil {
		return 0
	}
	c.lock.Lock()
	defer c.lock.Unlock()
	return c.most
}

// Count: what a new one has come to, when each list was added by an own goroutine.
func Count(l [][]int64) (int64, int64) {
	c, count := NewCounter(), int64(0)
	for _, numbers := range l {
		count += int64(len(numbers))
	}
	each(len(l), func(n int) {
		for _, x := range l[n] {
			c.Add(x)
		}
	})
	return c.Value(), count
}
