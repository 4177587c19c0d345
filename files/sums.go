package files

const (
	firstSum   = 1<<32 - 1
	polynomial = 0xEDB88320
)

// addSum goes on with a sum over more text. It is the CRC of 32 bits that takes the lowest bit of each byte first: with the sum behind the text, turned bits that lie within a row of 32 never go unseen.
func addSum(sum uint32, text string) uint32 {
	for i := range len(text) {
		sum ^= uint32(text[i])
		for range 8 {
			sum = sum>>1 ^ polynomial*(sum&1)
		}
	}
	return sum
}
