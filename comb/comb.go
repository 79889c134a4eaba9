// Package comb makes readers of grammars: see doc/09-comb.md.
package comb

import (
	"comb/api"
	"comb/pack"
	"comb/tabs"
)

// maxWorkers is how many goroutines ReadAll has at most.
const maxWorkers = 16

// Result is a tree's text, or what is wrong.
type Result struct {
	Tree string
	Err  api.Errno
	At   int
}

// Generate makes a pack of a grammar (Z1).
func Generate(text string) (string, []api.Clash, api.Errno, int) {
	_, _, clashes, _, errno, at := tabs.Make(text)
	if errno != api.OK {
		return "", nil, errno, at
	}
	if len(clashes) > 0 {
		return "", clashes, api.ErrClash, 0
	}
	b, errno, at := pack.Make(text)
	return b, nil, errno, at
}

// Read reads words by a pack (Z2).
func Read(b string, words string) (string, api.Errno, int) {
	r, errno := newReader(b)
	if errno != api.OK {
		return "", errno, 0
	}
	result := r.read(words)
	return result.Tree, result.Err, result.At
}

// ReadAll reads texts by several goroutines (Z3).
func ReadAll(b string, texts []string, workers int) ([]Result, api.Errno) {
	r, errno := newReader(b)
	if errno != api.OK || workers < 1 || workers > maxWorkers {
		return nil, api.ErrData
	}
	return r.readAll(texts, workers), api.OK
}
