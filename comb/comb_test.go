package comb_test

import (
	"fmt"
	"math"
	"math/rand"
	"runtime"
	"slices"
	"strings"
	"testing"
	"time"

	"comb/api"
	"comb/comb"
	"comb/pack"
)

func mustGenerate(t *testing.T, text string) string {
	t.Helper()
	b, clashes, errno, at := comb.Generate(text)
	if b == "" || clashes != nil || errno != api.OK || at != 0 {
		t.Fatalf("Z1: Generate(%.60q) = %d bytes, %v, %d, %d", text, len(b), clashes, errno, at)
	}
	return b
}

func TestGenerate(t *testing.T) {
	for _, text := range []string{"a=;", "s = A s | ;", "%left A; %left B; e = Z | e A e | e B e;", "l = C (X (D X)*)? E;"} {
		if want, _, _ := pack.Make(text); mustGenerate(t, text) != want {
			t.Errorf("Z1: Generate(%q) is not the pack", text)
		}
	}
}

func TestNotGenerated(t *testing.T) {
	for _, c := range []struct {
		text    string
		errno   api.Errno
		at      int
		clashes []api.Clash
	}{
		{"a=;" + strings.Repeat("\n", 1998), api.ErrLong, 0, nil},
		{"", api.ErrForm, 0, nil},
		{"a=A", api.ErrForm, 3, nil},
		{"a=(((((((((A)))))))));", api.ErrDeep, 10, nil},
		{"%left A B A;a=b;", api.ErrTwice, 10, nil},
		{"a=A b;", api.ErrName, 4, nil},
		{"a=;b=b;", api.ErrUnused, 3, nil},
		{"a=b?;b=b;", api.ErrEndless, 5, nil},
		{"a=" + strings.Repeat("|", 200) + ";", api.ErrMany, 0, nil},
		{"a=" + strings.Repeat(" A", 299) + ";", api.ErrMany, 0, nil},
		{"e = e A e | B;", api.ErrClash, 0, []api.Clash{{State: 4, Token: 1, Shift: true, Prods: []int{1}}}},
		{"s = a | b; a = A; b = A;", api.ErrClash, 0, []api.Clash{{State: 1, Token: 0, Prods: []int{3, 4}}}},
		{"s = s | A;", api.ErrClash, 0, []api.Clash{{State: 2, Token: 0, Prods: []int{0, 1}}}},
	} {
		b, clashes, errno, at := comb.Generate(c.text)
		if b != "" || fmt.Sprint(clashes) != fmt.Sprint(c.clashes) || (clashes == nil) != (c.clashes == nil) || errno != c.errno || at != c.at {
			t.Errorf("Z1: Generate(%.60q) = %q, %v, %d, %d, want %v, %d, %d", c.text, b, clashes, errno, at, c.clashes, c.errno, c.at)
		}
	}
}

func TestRead(t *testing.T) {
	const list, left, nest = "s = A s | ;", "%left A; %left B; e = Z | e A e | e B e;", "l = C (X (D X)*)? E;"
	const long = "rule1 = ABCDEFGHIJKL abcdefghijkl? B2; abcdefghijkl = A | AB+;"
	for _, c := range []struct {
		text, words, want string
	}{
		{list, "", "(s)"},
		{list, " ", "(s)"},
		{list, "\t\n \n", "(s)"},
		{list, "A", "(s A (s))"},
		{list, "A A", "(s A (s A (s)))"},
		{list, "\tA\n", "(s A (s))"},
		{list, "A\nA\tA A \t\n A", "(s A (s A (s A (s A (s A (s))))))"},
		{left, "Z A Z B Z A Z", "(e (e (e Z) A (e (e Z) B (e Z))) A (e Z))"},
		{left, "Z B Z B Z", "(e (e (e Z) B (e Z)) B (e Z))"},
		{"%right A; e = Z | e A e;", "Z A Z A Z", "(e (e Z) A (e (e Z) A (e Z)))"},
		{"%left A; %right N; e = Z | e A e | A e %prec N;", "A A Z A Z", "(e (e A (e A (e Z))) A (e Z))"},
		{nest, "C E", "(l C E)"},
		{nest, "C X E", "(l C X E)"},
		{nest, "C X D X D X E", "(l C X D X D X E)"},
		{"a = b c*; b = B?; c = C | D a E;", "D B C E C", "(a (b) (c D (a (b B) (c C)) E) (c C))"},
		{"a = ((b | B)+ C)*; b = A?  D;", "D B C A D C", "(a (b D) B C (b A D) C)"},
		{long, "ABCDEFGHIJKL AB AB B2", "(rule1 ABCDEFGHIJKL (abcdefghijkl AB AB) B2)"},
		{long, "ABCDEFGHIJKL A B2", "(rule1 ABCDEFGHIJKL (abcdefghijkl A) B2)"},
		{long, "ABCDEFGHIJKL B2", "(rule1 ABCDEFGHIJKL B2)"},
	} {
		if got, errno, at := comb.Read(mustGenerate(t, c.text), c.words); got != c.want || errno != api.OK || at != 0 {
			t.Errorf("Z2: Read(%q, %q) = %q, %d, %d, want %q", c.text, c.words, got, errno, at, c.want)
		}
	}
}

func TestWrongWords(t *testing.T) {
	const list, nest = "s = A s | ;", "l = C (X (D X)*)? E;"
	const none, endless = "%none A; e = Z | e A e;", "%left A; %left B; a = b a | A; b = %prec B;"
	for _, c := range []struct {
		text, words string
		errno       api.Errno
		at          int
	}{
		{list, "B", api.ErrName, 0},
		{list, " A\tB", api.ErrName, 3},
		{list, "A\n\n\t AA A", api.ErrName, 5},
		{list, "A A B C", api.ErrName, 4},
		{list, "$", api.ErrName, 0},
		{list, "A s", api.ErrName, 2},
		{list, "A $start", api.ErrName, 2},
		{list, "a", api.ErrName, 0},
		// Other bytes part no words.
		{list, "A\rA", api.ErrName, 0},
		{list, "A A\x0b", api.ErrName, 2},
		{list, "A A\x00A", api.ErrName, 2},
		{list, "A \u00a0 A", api.ErrName, 2},
		{list, "A \xff", api.ErrName, 2},
		{list, "A,A", api.ErrName, 0},
		// A word that is none, ahead of what is wrong in the row.
		{nest, "X X B", api.ErrName, 4},
		{nest, "E E E  x", api.ErrName, 7},
		{endless, "A A a", api.ErrName, 4},
		{nest, "", api.ErrWord, 0},
		{nest, "   ", api.ErrWord, 3},
		{nest, "C", api.ErrWord, 1},
		{nest, "C ", api.ErrWord, 2},
		{nest, " C\t\n", api.ErrWord, 4},
		{nest, "E", api.ErrWord, 0},
		{nest, "\n E", api.ErrWord, 2},
		{nest, "C X X E", api.ErrWord, 4},
		{nest, "C   X\t\tX E", api.ErrWord, 7},
		{nest, "C E C", api.ErrWord, 4},
		{none, "Z A Z  A Z", api.ErrWord, 7},
		{none, "Z A", api.ErrWord, 3},
		{endless, "A", api.ErrSteps, 0},
		{endless, " A A", api.ErrSteps, 0},
		{endless, "", api.ErrSteps, 0},
	} {
		if got, errno, at := comb.Read(mustGenerate(t, c.text), c.words); got != "" || errno != c.errno || at != c.at {
			t.Errorf("Z2: Read(%q, %q) = %q, %d, %d, want %d, %d", c.text, c.words, got, errno, at, c.errno, c.at)
		}
	}
}

func TestWrongBytes(t *testing.T) {
	b := mustGenerate(t, "s = A s | ;")
	wrong := []string{"", "\x00", "s = A s | ;", b[1:], b[:len(b)-1], b + "\x00", b + b, strings.ToUpper(b), strings.Repeat("\xff", 1000)}
	r := rand.New(rand.NewSource(1))
	for range 2000 {
		any := []byte(b)
		any[r.Intn(len(any))] ^= 1 << r.Intn(8)
		wrong = append(wrong, string(any))
		for range r.Intn(20) {
			any[r.Intn(len(any))] = byte(r.Intn(256))
		}
		wrong = append(wrong, string(any[:r.Intn(len(any))]))
	}
	for _, b := range wrong {
		for _, words := range []string{"", "A", "?"} {
			if got, errno, at := comb.Read(b, words); got != "" || errno != api.ErrData || at != 0 {
				t.Errorf("Z2: Read(%q, %q) = %q, %d, %d", b, words, got, errno, at)
			}
		}
		for _, workers := range []int{0, 1, 16} {
			if got, errno := comb.ReadAll(b, []string{"", "A", "?"}, workers); got != nil || errno != api.ErrData {
				t.Errorf("Z3: ReadAll(%q, .., %d) = %v, %d", b, workers, got, errno)
			}
		}
	}
}

// TestDeep holds trees as deep as a text is long against G1.
func TestDeep(t *testing.T) {
	const words = 200000
	text := strings.Repeat("A ", words)
	for _, c := range []struct{ text, want string }{
		{"s = A s | ;", strings.Repeat("(s A ", words) + "(s)" + strings.Repeat(")", words)},
		{"s = s A | ;", strings.Repeat("(s ", words) + "(s)" + strings.Repeat(" A)", words)},
		{"s = A*;", "(s" + strings.Repeat(" A", words) + ")"},
	} {
		if got, errno, at := comb.Read(mustGenerate(t, c.text), text); got != c.want || errno != api.OK || at != 0 {
			t.Errorf("Z2: %d words of %q: %.60q, %d, %d", words, c.text, got, errno, at)
		}
	}
}

// manyTexts tells texts that bring trees and texts that bring errors.
func manyTexts(count int) []string {
	texts := make([]string, count)
	for i := range texts {
		texts[i] = strings.Repeat("A ", i%7*i) + []string{"", "A", "B", "A B", "\t?"}[i%5]
	}
	return texts
}

func TestReadAll(t *testing.T) {
	b := mustGenerate(t, "s = A s | A C | ;")
	for _, count := range []int{0, 1, 2, 15, 16, 17, 100} {
		texts := manyTexts(count)
		before := slices.Clone(texts)
		for workers := 1; workers <= 16; workers++ {
			got, errno := comb.ReadAll(b, texts, workers)
			if errno != api.OK || len(got) != count {
				t.Fatalf("Z3: %d texts, %d workers: %d results, %d", count, workers, len(got), errno)
			}
			for i, result := range got {
				tree, errno, at := comb.Read(b, texts[i])
				if result != (comb.Result{Tree: tree, Err: errno, At: at}) {
					t.Errorf("Z3: %d texts, %d workers: of text %d %.60v", count, workers, i, result)
				}
			}
		}
		if !slices.Equal(texts, before) {
			t.Errorf("G4: %d texts are changed", count)
		}
	}
	if got, errno := comb.ReadAll(b, nil, 1); len(got) != 0 || errno != api.OK {
		t.Errorf("Z3: no texts: %v, %d", got, errno)
	}
}

func TestWorkers(t *testing.T) {
	b := mustGenerate(t, "s = A s | ;")
	for _, workers := range []int{0, -1, 17, 18, 1<<8 + 1, 1<<32 + 1, math.MinInt, math.MaxInt} {
		for _, texts := range [][]string{nil, {"A"}, manyTexts(20)} {
			if got, errno := comb.ReadAll(b, texts, workers); got != nil || errno != api.ErrData {
				t.Errorf("Z3: %d workers: %v, %d", workers, got, errno)
			}
		}
	}
}

// TestGoroutines counts goroutines while ReadAll reads, and when it has answered.
func TestGoroutines(t *testing.T) {
	b := mustGenerate(t, "s = A s | ;")
	texts := slices.Repeat([]string{strings.Repeat("A ", 5000)}, 200)
	time.Sleep(50 * time.Millisecond) // those of the tests ahead have ended by then
	before := runtime.NumGoroutine()
	for _, workers := range []int{1, 2, 16} {
		stop, most := make(chan int), make(chan int)
		go func() {
			seen := 0
			for {
				select {
				case <-stop:
					most <- seen
					return
				default:
					seen = max(seen, runtime.NumGoroutine()-before-1)
					time.Sleep(time.Millisecond)
				}
			}
		}()
		comb.ReadAll(b, texts, workers)
		stop <- 0
		if seen := <-most; seen != workers {
			t.Errorf("Z3: %d goroutines took texts, want %d", seen, workers)
		}
		// A goroutine that has done its last deed may still be counted for a moment.
		for wait := 0; runtime.NumGoroutine() > before; wait++ {
			if wait == 1000 {
				t.Fatalf("Z3: %d goroutines go on", runtime.NumGoroutine()-before)
			}
			time.Sleep(time.Millisecond)
		}
	}
}
