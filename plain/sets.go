package plain

import "comb/api"

// canBeEmpty tells of each symbol whether it can be empty.
func canBeEmpty(plain api.Plain) []bool {
	empty := make([]bool, len(plain.Tokens)+len(plain.Names))
	for grew := true; grew; {
		grew = false
		for _, prod := range plain.Prods {
			if !empty[prod.Left] && emptyAhead(prod.Right, empty) == len(prod.Right) {
				empty[prod.Left] = true
				grew = true
			}
		}
	}
	return empty
}

// emptyAhead tells how many symbols stand ahead of the first one that cannot be empty.
func emptyAhead(symbols []int, empty []bool) int {
	for i, symbol := range symbols {
		if !empty[symbol] {
			return i
		}
	}
	return len(symbols)
}

// firstTokens tells the first tokens of each symbol. As each rule comes to an end, a production can begin with whatever one of its symbols does of which all ahead can be empty.
func firstTokens(plain api.Plain, empty []bool) [][]int {
	begins := tokensAlone(plain)
	for grew := true; grew; {
		grew = false
		for _, prod := range plain.Prods {
			count := min(emptyAhead(prod.Right, empty)+1, len(prod.Right))
			for _, symbol := range prod.Right[:count] {
				if join(begins[prod.Left], begins[symbol]) {
					grew = true
				}
			}
		}
	}
	lists := make([][]int, len(begins))
	for i, set := range begins {
		lists[i] = members(set)
	}
	return lists
}

// tokensAlone makes a set of tokens for each symbol: of a token itself, of a name none yet.
func tokensAlone(plain api.Plain) [][]bool {
	sets := make([][]bool, len(plain.Tokens)+len(plain.Names))
	for i := range sets {
		sets[i] = make([]bool, len(plain.Tokens))
		if i < len(plain.Tokens) {
			sets[i][i] = true
		}
	}
	return sets
}

// join puts all of one set into another one, and tells whether that grew.
func join(into, from []bool) bool {
	grew := false
	for i, in := range from {
		if in && !into[i] {
			into[i] = true
			grew = true
		}
	}
	return grew
}

// members tells what is in a set, rising.
func members(set []bool) []int {
	var list []int
	for i, in := range set {
		if in {
			list = append(list, i)
		}
	}
	return list
}
