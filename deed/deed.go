// Package deed names what a cell of a table does (api.Cell's Do): see doc/05-tabs.md.
package deed

const (
	Nothing = iota
	Shift
	Reduce
	Accept
	Never // nothing, by its level
)
