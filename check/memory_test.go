package check

import (
	"fmt"
	"slices"
	"testing"
	"unsafe"

	"comb/api"
	"comb/comb"
	"comb/fold"
	"comb/look"
	"comb/pack"
	"comb/plain"
	"comb/run"
	"comb/state"
	"comb/tabs"
)

const busy = "%left A B;a=A b (B b|A)+ (A)* %prec B|b (A|b A b)+;b=A?|B+|A B A B;"

// checkApart writes a number of its own into all of each list, as far as its memory goes, and holds against G4 that no other list is changed by that.
func checkApart[T any](t *testing.T, what string, lists [][]T, number func(*T) *int) {
	t.Helper()
	for i, list := range lists {
		list = list[:cap(list)]
		for k := range list {
			*number(&list[k]) = -2 - i
		}
	}
	for i, list := range lists {
		list = list[:cap(list)]
		for k := range list {
			if *number(&list[k]) != -2-i {
				t.Errorf("G4: %s: list %d of one answer shares memory with another one", what, i)
			}
		}
	}
}

func itself(x *int) *int { return x }

// checkSame makes an answer, lets another one be spoilt, and holds against G3 and G4 that the first one stays, and that a third one is like it.
func checkSame[T any](t *testing.T, what string, answer func() T, spoil func(T)) {
	t.Helper()
	first := answer()
	before := fmt.Sprint(first)
	spoil(answer())
	if after := fmt.Sprint(first); after != before {
		t.Errorf("G4: %s: two answers share memory: %s, was %s", what, after, before)
	}
	if after := fmt.Sprint(answer()); after != before {
		t.Errorf("G3: %s: now %s, was %s", what, after, before)
	}
}

func TestMakeNew(t *testing.T) {
	checkSame(t, "Make", func() api.Plain { made, _, _ := plain.Make(busy); return made }, func(made api.Plain) {
		lists := [][]int{made.Binds, made.Kinds}
		for _, prod := range made.Prods {
			lists = append(lists, prod.Right)
		}
		checkApart(t, "Make", lists, itself)
		clear(made.Prods)
		clear(made.Tokens[:cap(made.Tokens)])
		if slices.Contains(made.Names, "") {
			t.Errorf("G4: Make: Tokens and Names share memory")
		}
		clear(made.Names)
	})
}

func TestSetsNew(t *testing.T) {
	checkSame(t, "Sets", func() [][]int { _, first, _, _ := plain.Sets(busy); return first }, func(first [][]int) {
		checkApart(t, "Sets", first, itself)
		clear(first)
	})
	checkSame(t, "Sets", func() []bool { empty, _, _, _ := plain.Sets(busy); return empty }, func(empty []bool) {
		empty[0] = true
	})
}

func TestStatesNew(t *testing.T) {
	checkSame(t, "States", func() [][]api.Spot { kernels, _, _, _ := state.States(busy); return kernels }, func(kernels [][]api.Spot) {
		checkApart(t, "States", kernels, func(spot *api.Spot) *int { return &spot.Prod })
		clear(kernels)
	})
	checkSame(t, "States", func() []api.Edge { _, edges, _, _ := state.States(busy); return edges }, func(edges []api.Edge) {
		clear(edges)
	})
}

func TestLookNew(t *testing.T) {
	checkSame(t, "Look", func() [][]api.Ahead { aheads, _, _ := look.Look(busy); return aheads }, func(aheads [][]api.Ahead) {
		var lists [][]int
		for _, list := range aheads {
			for i := range list {
				lists = append(lists, list[i].Tokens)
			}
		}
		checkApart(t, "Look", lists, itself)
		checkApart(t, "Look", aheads, func(ahead *api.Ahead) *int { return &ahead.Prod })
		clear(aheads)
	})
}

func TestTabsNew(t *testing.T) {
	checkSame(t, "tabs.Make", func() [][]api.Cell { cells, _, _, _, _, _ := tabs.Make(busy); return cells }, func(cells [][]api.Cell) {
		checkApart(t, "tabs.Make", cells, func(cell *api.Cell) *int { return &cell.To })
		clear(cells)
	})
	checkSame(t, "tabs.Make", func() [][]int { _, gotos, _, _, _, _ := tabs.Make(busy); return gotos }, func(gotos [][]int) {
		checkApart(t, "tabs.Make", gotos, itself)
		clear(gotos)
	})
	checkSame(t, "tabs.Make", func() []api.Clash { _, _, clashes, _, _, _ := tabs.Make(busy); return clashes }, func(clashes []api.Clash) {
		if len(clashes) < 2 {
			t.Fatalf("only %d cells clash", len(clashes))
		}
		var lists [][]int
		for _, clash := range clashes {
			lists = append(lists, clash.Prods)
		}
		checkApart(t, "tabs.Make", lists, itself)
		clear(clashes)
	})
}

// spoil makes a text in memory of its own, hands it on, and then writes over it, so that what was kept of it is changed too.
func spoil(text string, use func(string)) {
	memory := []byte(text)
	use(unsafe.String(&memory[0], len(memory)))
	for i := range memory {
		memory[i] = '?'
	}
}

// TestPackNew holds against G4 that neither a pack's bytes nor what is loaded of them keep what was handed in, and against G3 that a pack answers by its own bytes alone.
func TestPackNew(t *testing.T) {
	const text, other = "%left B; s = s B s | C?;", "abcdef = A (B | C)* abcdef | ;"
	var b string
	spoil(text, func(text string) { b, _, _ = pack.Make(text) })
	if again, errno, _ := pack.Make(text); errno != api.OK || again != b {
		t.Errorf("G3, G4: Make(%q) = %q, was %q", text, again, b)
	}
	var p, q *pack.Pack
	spoil(b, func(b string) { p, _ = pack.Load(b) })
	otherBytes, _, _ := pack.Make(other)
	spoil(otherBytes, func(b string) { q, _ = pack.Load(b) })
	for _, c := range []struct {
		text string
		p    *pack.Pack
	}{{text, p}, {other, q}, {text, p}} {
		made, _, _ := plain.Make(c.text)
		madeTable(t, c.text).checkTold(t, c.text, made, c.p)
	}
}

// checkNodes holds against G3 and G4 the nodes that a call makes of a row, which it is handed anew each time, and which is then written over.
func checkNodes(t *testing.T, what string, row []int, parse func(row []int) ([]api.Node, api.Errno, int)) {
	t.Helper()
	answer := func() []api.Node {
		handed := slices.Clone(row)
		nodes, errno, at := parse(handed)
		if errno != api.OK || at != 0 || len(nodes) < 10 {
			t.Fatalf("%s: %d nodes, %d, %d", what, len(nodes), errno, at)
		}
		if !slices.Equal(handed, row) {
			t.Errorf("G4: %s changes the row", what)
		}
		for i := range handed {
			handed[i] = -7
		}
		return nodes
	}
	checkSame(t, what, answer, func(nodes []api.Node) {
		var lists [][]int
		for _, node := range nodes {
			lists = append(lists, node.Kids)
		}
		checkApart(t, what, lists, itself)
		clear(nodes)
	})
}

func TestNodesNew(t *testing.T) {
	const text = "s = (A b (C | D b)*)+ E; b = B b | ;"
	row := []int{1, 5, 5, 2, 3, 5, 5, 2, 1, 2, 1, 3, 4}
	b, errno, at := pack.Make(text)
	if errno != api.OK {
		t.Fatalf("L1: Make(%q): %d, %d", text, errno, at)
	}
	checkNodes(t, "run.Parse", row, func(row []int) ([]api.Node, api.Errno, int) { return run.Parse(b, row) })
	checkNodes(t, "fold.Parse", row, func(row []int) ([]api.Node, api.Errno, int) { return fold.Parse(text, row) })
}

func TestGenerateNew(t *testing.T) {
	checkSame(t, "Generate", func() []api.Clash { _, clashes, _, _ := comb.Generate(busy); return clashes }, func(clashes []api.Clash) {
		if len(clashes) < 2 {
			t.Fatalf("only %d cells clash", len(clashes))
		}
		var lists [][]int
		for _, clash := range clashes {
			lists = append(lists, clash.Prods)
		}
		checkApart(t, "Generate", lists, itself)
		clear(clashes)
	})
}

// TestReadNew holds against G4 that what is generated or read keeps nothing of what was handed in, and against G3 that it is the same again.
func TestReadNew(t *testing.T) {
	const text, words, tree = "s = A s | b; b = B*;", "A A B B", "(s A (s A (s (b B B))))"
	var b string
	spoil(text, func(text string) { b, _, _, _ = comb.Generate(text) })
	if again, _, errno, _ := comb.Generate(text); errno != api.OK || again != b {
		t.Errorf("G3, G4: Generate(%q) = %q, was %q", text, again, b)
	}
	var read string
	spoil(b, func(b string) {
		spoil(words, func(words string) { read, _, _ = comb.Read(b, words) })
	})
	if read != tree {
		t.Errorf("G4: Read(%q, %q) = %q, want %q", text, words, read, tree)
	}
	answer := func() []comb.Result {
		var results []comb.Result
		texts := make([]string, 40)
		spoil(b, func(b string) {
			spoil(words, func(words string) {
				for i := range texts {
					texts[i] = words
				}
				results, _ = comb.ReadAll(b, texts, 7)
			})
		})
		clear(texts)
		return results
	}
	checkSame(t, "ReadAll", answer, func(results []comb.Result) { clear(results[:cap(results)]) })
	for i, result := range answer() {
		if result != (comb.Result{Tree: tree}) {
			t.Errorf("G4: ReadAll: text %d: %v, want %q", i, result, tree)
		}
	}
}
