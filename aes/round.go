package aes

const (
	rounds    = 10 // behind the first key
	blockSize = 16 // bytes
	columns   = 4
	rows      = 4
)

// ahead is a round, as it is encrypted.
func ahead(i int, block, key [blockSize]byte) [blockSize]byte {
	if i > 0 {
		block = turned(substituted(block), 1)
	}
	switch {
	case 0 < i && i < rounds:
		block = mixed(block, [rows]byte{2, 3, 1, 1})
		fallthrough
	default:
		block = xored(block, key)
	}
	return block
}

// back undoes a round; whose the substitutes are is told by whose.
func back(i int, block, key [blockSize]byte, whose [256]byte) [blockSize]byte {
	block = xored(block, key)
	switch {
	case 0 < i && i < rounds:
		block = mixed(block, [rows]byte{14, 11, 13, 9}) // the inverse of 2, 3, 1, 1
		fallthrough
	case i == rounds:
		block = turned(block, columns-1) // with what was turned: a whole turn
		for k, x := range block {
			block[k] = whose[x]
		}
	}
	return block
}

// substituted answers the substitutes of a block's bytes.
func substituted(block [blockSize]byte) [blockSize]byte {
	for k, x := range block {
		block[k] = Substitute(x)
	}
	return block
}

// turned answers the block, each row r turned left by r, times over.
func turned(block [blockSize]byte, times int) [blockSize]byte {
	var out [blockSize]byte
	for k := range out {
		out[k] = block[(k+rows*(k%rows)*times)%blockSize]
	}
	return out
}

// mixed answers the block, each byte the sum of those of its column, from itself on and round, each times its factor.
func mixed(block [blockSize]byte, factors [rows]byte) [blockSize]byte {
	var out [blockSize]byte
	for k := range out {
		first := k - k%rows
		for j, factor := range factors {
			out[k] ^= Times(block[first+(k+j)%rows], factor)
		}
	}
	return out
}

// xored answers the block xor the key.
func xored(block, key [blockSize]byte) [blockSize]byte {
	for k, x := range key {
		block[k] ^= x
	}
	return block
}

// nextKey answers the key of a round behind another one's; power is x to as many rounds as there were ahead.
func nextKey(key [blockSize]byte, power byte) [blockSize]byte {
	last := key[blockSize-rows:]
	column := [rows]byte{Substitute(last[1]) ^ power, Substitute(last[2]), Substitute(last[3]), Substitute(last[0])}
	for k := range key {
		column[k%rows] ^= key[k]
		key[k] = column[k%rows]
	}
	return key
}
