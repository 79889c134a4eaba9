package plain

import (
	"slices"
	"strconv"
	"strings"

	"comb/api"
)

// maker makes productions of a grammar that has none of firstFault's faults.
type maker struct {
	plain   api.Plain
	symbols map[string]int    // of TOKENs and of rules' NAMEs, of which none are alike
	helpers map[*api.Item]int // by address, as a helper is one item's alone
}

func produce(grammar api.Grammar, words []word) api.Plain {
	m := maker{symbols: map[string]int{}, helpers: map[*api.Item]int{}}
	m.addTokens(words)
	m.addLevels(grammar.Levels)
	m.addNames(grammar.Rules)
	m.addProds(grammar.Rules)
	return m.plain
}

func (m *maker) addTokens(words []word) {
	m.plain.Tokens = []string{"$"}
	for _, w := range words {
		if w.role == ruleName || w.role == usedName {
			continue
		}
		if m.symbols[w.text] == 0 { // 0 is the end's, which is no TOKEN
			m.symbols[w.text] = len(m.plain.Tokens)
			m.plain.Tokens = append(m.plain.Tokens, strings.Clone(w.text))
		}
	}
}

func (m *maker) addLevels(levels []api.Level) {
	m.plain.Binds = make([]int, len(m.plain.Tokens))
	m.plain.Kinds = make([]int, len(m.plain.Tokens))
	for i, level := range levels {
		for _, token := range level.Tokens {
			m.plain.Binds[m.symbols[token]] = i + 1
			m.plain.Kinds[m.symbols[token]] = level.Kind
		}
	}
}

// addNames gives all rules and helpers their numbers ahead of any production, as a rule may be used ahead of where it stands.
func (m *maker) addNames(rules []api.Rule) {
	m.addName("$start")
	for _, rule := range rules {
		m.symbols[rule.Name] = m.addName(rule.Name)
		count := 0
		eachItem(rule.Alts, hasHelper, func(item *api.Item) {
			count++
			m.helpers[item] = m.addName(rule.Name + "'" + strconv.Itoa(count))
		})
	}
}

// addName tells the number of the symbol that the name gets.
func (m *maker) addName(name string) int {
	m.plain.Names = append(m.plain.Names, name)
	return len(m.plain.Tokens) + len(m.plain.Names) - 1
}

func (m *maker) addProds(rules []api.Rule) {
	m.put(len(m.plain.Tokens), m.symbols[rules[0].Name])
	for _, rule := range rules {
		for _, alt := range rule.Alts {
			m.put(m.symbols[rule.Name], m.right(alt)...)
			if alt.Prec != "" {
				m.plain.Prods[len(m.plain.Prods)-1].Prec = m.symbols[alt.Prec]
			}
		}
		eachItem(rule.Alts, hasHelper, m.putHelper)
	}
}

// put adds a production, whose Prec is the last token in it. The symbols are copied: no two productions share memory, whoever hands them in.
func (m *maker) put(left int, right ...int) {
	prec := -1
	for _, symbol := range right {
		if symbol < len(m.plain.Tokens) {
			prec = symbol
		}
	}
	m.plain.Prods = append(m.plain.Prods, api.Prod{Left: left, Right: slices.Clone(right), Prec: prec})
}

// right tells the symbols of an alt's items.
func (m *maker) right(alt api.Alt) []int {
	var symbols []int
	for i := range alt.Items {
		symbols = append(symbols, m.symbol(&alt.Items[i]))
	}
	return symbols
}

func (m *maker) symbol(item *api.Item) int {
	if hasHelper(item) {
		return m.helpers[item]
	}
	return m.symbols[item.Name]
}

// parts tells the symbols of each part of a helper's item.
func (m *maker) parts(item *api.Item) [][]int {
	if item.Kind != groupItem {
		return [][]int{{m.symbols[item.Name]}}
	}
	var parts [][]int
	for _, alt := range item.Alts {
		parts = append(parts, m.right(alt))
	}
	return parts
}

func (m *maker) putHelper(item *api.Item) {
	helper, parts := m.helpers[item], m.parts(item)
	if item.Mark == '?' || item.Mark == '*' {
		m.put(helper)
	}
	if item.Mark != '*' {
		for _, part := range parts {
			m.put(helper, part...)
		}
	}
	if item.Mark == '*' || item.Mark == '+' {
		for _, part := range parts {
			m.put(helper, slices.Concat([]int{helper}, part)...)
		}
	}
}
