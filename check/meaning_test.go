package check

import (
	"maps"
	"reflect"
	"slices"
	"testing"

	"comb/api"
	"comb/gram"
	"comb/plain"
)

// rows are rows of tokens of one letter each.
type rows map[string]bool

// meaning tells what a grammar means (B6) straight from its rules, as far as rows are no longer than longest.
type meaning struct {
	longest int
	rules   map[string]rows
}

// ofFirst tells the rows that the first rule means.
func (m meaning) ofFirst(rules []api.Rule) rows {
	m.rules = map[string]rows{}
	for grew := true; grew; {
		grew = false
		for _, rule := range rules {
			found := m.ofAlts(rule.Alts)
			grew = grew || len(found) > len(m.rules[rule.Name])
			m.rules[rule.Name] = found
		}
	}
	return m.rules[rules[0].Name]
}

func (m meaning) ofAlts(alts []api.Alt) rows {
	out := rows{}
	for _, alt := range alts {
		found := rows{"": true}
		for _, item := range alt.Items {
			found = m.behind(found, m.ofItem(item))
		}
		maps.Copy(out, found)
	}
	return out
}

func (m meaning) ofItem(item api.Item) rows {
	once := rows{}
	switch item.Kind {
	case 0:
		maps.Copy(once, m.rules[item.Name])
	case 1:
		once[item.Name] = true
	default:
		once = m.ofAlts(item.Alts)
	}
	switch item.Mark {
	case '?':
		once[""] = true
	case '*':
		return m.anyTimes(once)
	case '+':
		return m.behind(once, m.anyTimes(once))
	}
	return once
}

func (m meaning) anyTimes(once rows) rows {
	out := rows{"": true}
	for size := 0; size < len(out); {
		size = len(out)
		maps.Copy(out, m.behind(out, once))
	}
	return out
}

func (m meaning) behind(left, right rows) rows {
	out := rows{}
	for a := range left {
		for b := range right {
			if len(a+b) <= m.longest {
				out[a+b] = true
			}
		}
	}
	return out
}

// derived tells of each symbol what comes from it by productions; join lays one row behind another one, and tells whether that is to be kept.
func derived(made api.Plain, join func(a, b string) (string, bool)) []rows {
	found := make([]rows, len(made.Tokens)+len(made.Names))
	for i := range found {
		found[i] = rows{}
		if i < len(made.Tokens) {
			found[i][made.Tokens[i]] = true
		}
	}
	for grew := true; grew; {
		grew = false
		for _, prod := range made.Prods {
			size := len(found[prod.Left])
			maps.Copy(found[prod.Left], ofRight(prod.Right, found, join))
			grew = grew || len(found[prod.Left]) > size
		}
	}
	return found
}

func ofRight(right []int, found []rows, join func(a, b string) (string, bool)) rows {
	out := rows{"": true}
	for _, symbol := range right {
		next := rows{}
		for a := range out {
			for b := range found[symbol] {
				if row, keep := join(a, b); keep {
					next[row] = true
				}
			}
		}
		out = next
	}
	return out
}

func TestMeaning(t *testing.T) {
	const longest = 4
	eachGrammar(t, 1, func(text string, made api.Plain) {
		grammar, _, _ := gram.Parse(text)
		want := meaning{longest: longest}.ofFirst(grammar.Rules)
		got := derived(made, func(a, b string) (string, bool) { return a + b, len(a+b) <= longest })[len(made.Tokens)]
		if !reflect.DeepEqual(got, want) {
			t.Errorf("B6: of the productions of %q come %v, it means %v", text, got, want)
		}
	})
}

func TestSetsOfRandom(t *testing.T) {
	eachGrammar(t, 2, func(text string, made api.Plain) {
		empty, first, _, _ := plain.Sets(text)
		if len(empty) != len(made.Tokens)+len(made.Names) || len(first) != len(empty) {
			t.Fatalf("B5: Sets(%q) tells of %d and %d symbols", text, len(empty), len(first))
		}
		for symbol, begins := range derived(made, func(a, b string) (string, bool) { return (a + b)[:min(1, len(a+b))], true }) {
			var want []int
			for i, token := range made.Tokens {
				if begins[token] {
					want = append(want, i)
				}
			}
			if empty[symbol] != begins[""] || !slices.Equal(first[symbol], want) {
				t.Errorf("B5: Sets(%q): symbol %d: %v, %v, want %v, %v", text, symbol, empty[symbol], first[symbol], begins[""], want)
			}
		}
	})
}
