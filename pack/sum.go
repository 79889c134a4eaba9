package pack

// polynomial is that of CRC-32, which tells any one bit that is turned.
const polynomial = 0xedb88320

// sums has for each four bits what they leave, so that a byte is summed in two steps.
var sums = func() [16]uint32 {
	var table [16]uint32
	for i := range table {
		left := uint32(i)
		for range 4 {
			lowest := left & 1
			left = left>>1 ^ lowest*polynomial
		}
		table[i] = left
	}
	return table
}()

// sum tells the sum of bytes.
func sum[B string | []byte](b B) uint32 {
	left := ^uint32(0)
	for i := range len(b) {
		left ^= uint32(b[i])
		left = left>>4 ^ sums[left&15]
		left = left>>4 ^ sums[left&15]
	}
	return ^left
}
