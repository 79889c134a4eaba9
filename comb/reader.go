package comb

import (
	"sync"

	"comb/api"
	"comb/pack"
	"comb/run"
)

// reader reads texts by a pack. Reading changes nothing in it, so that several goroutines may share it.
type reader struct {
	bytes   string
	pack    *pack.Pack
	tokens  int            // how many there are
	numbers map[string]int // of each Token but the end
}

// newReader tells ErrData, if the bytes are no pack.
func newReader(b string) (*reader, api.Errno) {
	p, errno := pack.Load(b)
	if errno != api.OK {
		return nil, api.ErrData
	}
	_, tokens, _, _ := p.Sizes()
	r := &reader{bytes: b, pack: p, tokens: tokens, numbers: map[string]int{}}
	// Falling, as of Tokens of one name the first one stands.
	for i := tokens - 1; i > 0; i-- {
		r.numbers[p.Token(i)] = i
	}
	return r, api.OK
}

// read tells what Read answers.
func (r *reader) read(text string) Result {
	var row, places []int
	for at, word := range words(text) {
		number, known := r.numbers[word]
		if !known {
			return Result{Err: api.ErrName, At: at}
		}
		row = append(row, number)
		places = append(places, at)
	}
	nodes, errno, at := run.Parse(r.bytes, row)
	switch errno {
	case api.OK:
		return Result{Tree: r.tree(nodes)}
	case api.ErrWord:
		places = append(places, len(text)) // if all words were passed
		return Result{Err: errno, At: places[at]}
	}
	return Result{Err: errno}
}

// readAll hands the places of texts to workers; each result is written by the one that took its text.
func (r *reader) readAll(texts []string, workers int) []Result {
	results := make([]Result, len(texts))
	places := make(chan int)
	var group sync.WaitGroup
	for range workers {
		group.Add(1)
		go func() {
			defer group.Done()
			for place := range places {
				results[place] = r.read(texts[place])
			}
		}()
	}
	for place := range texts {
		places <- place
	}
	close(places)
	group.Wait()
	return results
}
