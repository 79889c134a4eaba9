package plain

import "comb/api"

// Kinds of items (A2).
const (
	nameItem = iota
	tokenItem
	groupItem
)

// eachItem goes through the items of alts at whatever depth, in the order in which they begin, and visits those that are wanted. It tells their addresses: two items that look alike are two.
func eachItem(alts []api.Alt, wanted func(*api.Item) bool, visit func(*api.Item)) {
	for a := range alts {
		items := alts[a].Items
		for i := range items {
			if wanted(&items[i]) {
				visit(&items[i])
			}
			eachItem(items[i].Alts, wanted, visit)
		}
	}
}

func isName(item *api.Item) bool { return item.Kind == nameItem }

func hasHelper(item *api.Item) bool { return item.Kind == groupItem || item.Mark != 0 }
