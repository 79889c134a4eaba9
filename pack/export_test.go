package pack

import "comb/api"

// Forged tells the bytes of a pack that has these tables, whether or not a text makes them.
func Forged(made api.Plain, cells [][]api.Cell, gotos [][]int) string {
	return written(newPack(made, cells, gotos))
}

// Sealed puts the sum that bytes must have in place of their last ones.
func Sealed(b []byte) string { return sealed(b) }
