package comb

import (
	"iter"
	"slices"
	"strings"

	"comb/api"
	"comb/tree"
)

// words goes through the words of a text, each with the place of its first byte.
func words(text string) iter.Seq2[int, string] {
	return func(yield func(int, string) bool) {
		for at := 0; at < len(text); {
			end := at
			for end < len(text) && !isBlank(text[end]) {
				end++
			}
			if end > at && !yield(at, text[at:end]) {
				return
			}
			at = end + 1
		}
	}
}

func isBlank(c byte) bool { return c == ' ' || c == '\t' || c == '\n' }

// behindKids stands on a pile of nodes where all Kids of one have been written.
const behindKids = -1

// writer writes a tree's text. A tree may be as deep as a row is long, so what is still to be written lies on a pile, the next one uppermost.
type writer struct {
	*reader
	nodes []api.Node
	pile  []int
	text  strings.Builder
}

// tree tells the text of the tree that nodes are: of the last one that is no helper's. (A pack that no text makes may bring none.)
func (r *reader) tree(nodes []api.Node) string {
	w := writer{reader: r, nodes: tree.Fold(nodes, r.name)}
	if len(w.nodes) == 0 {
		return ""
	}
	w.begin(len(w.nodes) - 1)
	for len(w.pile) > 0 {
		next := w.pile[len(w.pile)-1]
		w.pile = w.pile[:len(w.pile)-1]
		if next == behindKids {
			w.text.WriteByte(')')
			continue
		}
		w.text.WriteByte(' ')
		w.begin(next)
	}
	return w.text.String()
}

// begin writes what of a node stands ahead of its Kids.
func (w *writer) begin(number int) {
	node := w.nodes[number]
	if node.Prod < 0 {
		w.text.WriteString(w.pack.Token(node.Symbol))
		return
	}
	w.text.WriteByte('(')
	w.text.WriteString(w.name(node.Symbol))
	w.pile = append(w.pile, behindKids)
	for _, kid := range slices.Backward(node.Kids) {
		w.pile = append(w.pile, kid)
	}
}

// name tells what the name that a symbol stands for is called.
func (r *reader) name(symbol int) string { return r.pack.Name(symbol - r.tokens) }
