// Package sums: the sum of the internet, and how it changes; see ../../shared/doc/01-sums.md.
package sums

// Add is the sum of the lowest 16 bits of two, carries put back.
func Add(a, b int) int { return int(addWords(uint16(a), uint16(b))) }

// Of is the sum of bytes, two by two, a nought behind an odd one; carries put back.
func Of(b string) int {
	sum := uint16(0)
	for i := 0; i < len(b); i += 2 {
		sum = addWords(sum, wordAt(b, i))
	}
	return int(sum)
}

// Check is what stands in a header: the sum with all bits turned.
func Check(b string) int { return int(^uint16(Of(b))) }

// Update is a check behind the change of a word from m to n.
func Update(check, m, n int) int {
	sum := addWords(^uint16(check), ^uint16(m))
	return int(^addWords(sum, uint16(n)))
}

// addWords puts the carry back once: two words leave at most one, and with it the sum is a word again.
func addWords(a, b uint16) uint16 {
	sum := uint32(a) + uint32(b)
	return uint16(sum) + uint16(sum>>16)
}

// wordAt is the word that begins at a byte, its second byte a nought where the text ends ahead of it.
func wordAt(b string, i int) uint16 {
	word := uint16(b[i]) << 8
	if i+1 < len(b) {
		word |= uint16(b[i+1])
	}
	return word
}
