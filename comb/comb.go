// Package comb makes readers of grammars: see doc/09-comb.md.
package comb

import "comb/api"

// Result is a tree's text, or what is wrong.
type Result struct {
	Tree string
	Err  api.Errno
	At   int
}

// Generate makes a pack of a grammar (Z1).
func Generate(text string) (string, []api.Clash, api.Errno, int) { return "", nil, api.OK, 0 }

// Read reads words by a pack (Z2).
func Read(b string, words string) (string, api.Errno, int) { return "", api.OK, 0 }

// ReadAll reads texts by several goroutines (Z3).
func ReadAll(b string, texts []string, workers int) ([]Result, api.Errno) { return nil, api.OK }
