// Package crc has the sum by which bytes are known again: P12.
package crc

// polynomial is CRC-32's, its highest power in the lowest bit.
const polynomial = 0xedb88320

// Sum tells the CRC-32 of a text (P12).
func Sum(text string) uint32 {
	sum := ^uint32(0)
	for _, b := range []byte(text) {
		sum ^= uint32(b) // all eight bits at once: they are shifted out one by one
		for range 8 {
			sum = sum>>1 ^ polynomial&-(sum&1) // -1 wraps round to all bits, -0 has none
		}
	}
	return ^sum
}
