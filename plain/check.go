package plain

import (
	"slices"

	"comb/api"
)

// nowhere is the place of a fault that is not there.
const nowhere = -1

// firstFault tells the first of B1's faults that rules have, but for ErrMany. Each check may lean on those ahead of it: behind the first two, each NAME has just one rule.
func firstFault(rules []api.Rule, words []word) (api.Errno, int) {
	if at := twice(words); at != nowhere {
		return api.ErrTwice, at
	}
	if at := unknown(words); at != nowhere {
		return api.ErrName, at
	}
	numbers := ruleNumbers(rules)
	if at := firstLeft(reached(rules, numbers), words); at != nowhere {
		return api.ErrUnused, at
	}
	if at := firstLeft(ending(rules, numbers), words); at != nowhere {
		return api.ErrEndless, at
	}
	return api.OK, 0
}

// twice tells the place of the first word that is told once more. (A rule's NAME and a level's TOKEN are never alike.)
func twice(words []word) int {
	told := map[string]int{}
	for _, w := range words {
		if w.role != levelToken && w.role != ruleName {
			continue
		}
		told[w.text]++
		if told[w.text] > 1 {
			return w.at
		}
	}
	return nowhere
}

// unknown tells the place of the first word that must be told elsewhere, and is not.
func unknown(words []word) int {
	told := map[string]int{}
	for _, w := range words {
		if w.role == levelToken || w.role == ruleName {
			told[w.text]++
		}
	}
	for _, w := range words {
		if (w.role == usedName || w.role == precToken) && told[w.text] == 0 {
			return w.at
		}
	}
	return nowhere
}

func ruleNumbers(rules []api.Rule) map[string]int {
	numbers := map[string]int{}
	for i, rule := range rules {
		numbers[rule.Name] = i
	}
	return numbers
}

// firstLeft tells the place of the NAME of the first rule for which something does not hold.
func firstLeft(holds []bool, words []word) int {
	rule := 0
	for _, w := range words {
		if w.role != ruleName {
			continue
		}
		if !holds[rule] {
			return w.at
		}
		rule++
	}
	return nowhere
}

// reached tells which rules the first one comes to.
func reached(rules []api.Rule, numbers map[string]int) []bool {
	found := make([]bool, len(rules))
	found[0] = true
	open := []int{0}
	for len(open) > 0 {
		rule := open[len(open)-1]
		open = open[:len(open)-1]
		eachItem(rules[rule].Alts, isName, func(item *api.Item) {
			next := numbers[item.Name]
			if !found[next] {
				found[next] = true
				open = append(open, next)
			}
		})
	}
	return found
}

// ending tells which rules come to an end.
func ending(rules []api.Rule, numbers map[string]int) []bool {
	ends := make([]bool, len(rules))
	nameEnds := func(name string) bool { return ends[numbers[name]] }
	for grew := true; grew; {
		grew = false
		for i, rule := range rules {
			if !ends[i] && altsEnd(rule.Alts, nameEnds) {
				ends[i] = true
				grew = true
			}
		}
	}
	return ends
}

func altsEnd(alts []api.Alt, nameEnds func(string) bool) bool {
	return slices.ContainsFunc(alts, func(alt api.Alt) bool {
		return !slices.ContainsFunc(alt.Items, func(item api.Item) bool {
			return !itemEnds(item, nameEnds)
		})
	})
}

func itemEnds(item api.Item, nameEnds func(string) bool) bool {
	switch {
	case item.Mark == '*' || item.Mark == '?' || item.Kind == tokenItem:
		return true
	case item.Kind == nameItem:
		return nameEnds(item.Name)
	}
	return altsEnd(item.Alts, nameEnds)
}
