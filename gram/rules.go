package gram

import (
	"comb/api"
	"comb/sign"
)

// Kinds of items (A2).
const (
	nameItem = iota
	tokenItem
	groupItem
)

// ruleReader reads rules by the signs that the reader in it reads.
type ruleReader struct {
	signReader
	open int // how many groups are open
}

func (r *ruleReader) grammar() api.Grammar {
	var grammar api.Grammar
	for levelKind(r.ahead()) >= 0 {
		grammar.Levels = append(grammar.Levels, r.level())
	}
	grammar.Rules = append(grammar.Rules, r.rule())
	for !r.sees("") {
		grammar.Rules = append(grammar.Rules, r.rule())
	}
	return grammar
}

// levelKind tells which kind of level a sign begins; -1: none.
func levelKind(text string) int {
	switch text {
	case "%left":
		return 0
	case "%right":
		return 1
	case "%none":
		return 2
	}
	return -1
}

func (r *ruleReader) level() api.Level {
	level := api.Level{Kind: levelKind(r.ahead())}
	r.pass()
	level.Tokens = append(level.Tokens, r.token())
	for !r.passIf(";") {
		level.Tokens = append(level.Tokens, r.token())
	}
	return level
}

func (r *ruleReader) rule() api.Rule {
	rule := api.Rule{Name: r.name()}
	r.mustPass("=")
	rule.Alts = r.alts()
	r.mustPass(";")
	return rule
}

func (r *ruleReader) alts() []api.Alt {
	alts := []api.Alt{r.alt()}
	for r.passIf("|") {
		alts = append(alts, r.alt())
	}
	return alts
}

func (r *ruleReader) alt() api.Alt {
	var alt api.Alt
	for r.seesItem() {
		alt.Items = append(alt.Items, r.item())
	}
	if r.open == 0 && r.passIf("%prec") {
		alt.Prec = r.token()
	}
	return alt
}

func (r *ruleReader) seesItem() bool {
	return r.sees("(") || sign.IsName(r.ahead()) || sign.IsToken(r.ahead())
}

func (r *ruleReader) item() api.Item {
	var item api.Item
	switch {
	case r.sees("("):
		item.Kind, item.Alts = groupItem, r.group()
	case sign.IsName(r.ahead()):
		item.Kind, item.Name = nameItem, r.name()
	default:
		item.Kind, item.Name = tokenItem, r.token()
	}
	item.Mark = r.mark()
	return item
}

func (r *ruleReader) group() []api.Alt {
	if r.open == maxNest {
		r.throw(api.ErrDeep)
	}
	r.open++
	r.mustPass("(")
	alts := r.alts()
	r.mustPass(")")
	r.open--
	return alts
}

// mark passes the sign behind an item, if one stands there.
func (r *ruleReader) mark() byte {
	switch text := r.ahead(); text {
	case "*", "+", "?":
		r.pass()
		return text[0]
	}
	return 0
}
