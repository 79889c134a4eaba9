// Package look tells what may stand ahead: see doc/04-look.md.
package look

import "comb/api"

// Look tells with which tokens each state reduces (F2).
func Look(text string) ([][]api.Ahead, api.Errno, int) { return nil, api.OK, 0 }
