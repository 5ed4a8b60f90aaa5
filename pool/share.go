package pool

import (
	"sync"

	"cubit/api"
)

// share gives out what is to be done, by numbers from 0 on, in their order, to so many workers, each of whom takes the next one when it is done with one. What it answers waits till all of them have ended.
func share(jobs, workers int, do func(n int)) (join func()) {
	turns := make(chan int, jobs)
	for n := range jobs {
		turns <- n
	}
	close(turns)
	var busy sync.WaitGroup
	for range min(max(workers, 1), api.MaxWorkers, jobs) {
		busy.Add(1)
		go func() {
			defer busy.Done()
			for n := range turns {
				do(n)
			}
		}()
	}
	return busy.Wait
}

// each does a thing for every number from 0 on, each in a goroutine of its own, up to MaxWorkers of them at a time. All have ended when it answers.
func each(jobs int, do func(n int)) {
	room := make(chan struct{}, api.MaxWorkers)
	var busy sync.WaitGroup
	for n := range jobs {
		room <- struct{}{}
		busy.Add(1)
		go func() {
			defer busy.Done()
			do(n)
			<-room
		}()
	}
	busy.Wait()
}
