package seal

import (
	"seneschal/aes"
)

const blockSize = 16 // bytes

// block is that of AES.
type block [blockSize]byte

// encrypted answers b, at least a block, encrypted to as many bytes.
func encrypted(key, b []byte) []byte {
	blocks := split(b)
	var ahead block
	for i := range blocks {
		blocks[i] = encryptedBlock(key, xor(blocks[i], ahead))
		ahead = blocks[i]
	}
	switch last := len(blocks) - 1; {
	case last > 0:
		blocks[last-1], blocks[last] = blocks[last], blocks[last-1]
		fallthrough
	default:
		return joined(blocks, len(b)) // the last block, perhaps in its new place, is cut
	}
}

// decrypted answers what was encrypted to b, at least a block.
func decrypted(key, b []byte) []byte {
	blocks := split(b)
	last := len(blocks) - 1
	switch rest := len(b) - last*blockSize; {
	case rest < blockSize:
		// Noughts stood behind the shorter block, so what was cut off was encrypted as it is.
		other := decryptedBlock(key, blocks[last-1])
		copy(blocks[last][rest:], other[rest:])
		fallthrough
	case last > 0:
		blocks[last-1], blocks[last] = blocks[last], blocks[last-1]
		fallthrough
	default:
		var ahead block
		for i, one := range blocks {
			blocks[i] = xor(decryptedBlock(key, one), ahead)
			ahead = one
		}
	}
	return joined(blocks, len(b))
}

// split answers b in blocks, with noughts behind the last one if it is shorter.
func split(b []byte) []block {
	blocks := make([]block, (len(b)+blockSize-1)/blockSize)
	for i := range blocks {
		copy(blocks[i][:], b[i*blockSize:])
	}
	return blocks
}

// joined answers the first n bytes of the blocks.
func joined(blocks []block, n int) []byte {
	out := make([]byte, n)
	for i, one := range blocks {
		copy(out[i*blockSize:], one[:])
	}
	return out
}

// xor answers both blocks' xor.
func xor(a, b block) block {
	for i := range a {
		a[i] ^= b[i]
	}
	return a
}

// encryptedBlock answers one block, encrypted by a key of 16 bytes.
func encryptedBlock(key []byte, b block) block {
	out, _ := aes.Encrypt(key, b[:]) // key and block are as long as they must be
	return block(out)
}

// decryptedBlock answers one block, decrypted by a key of 16 bytes.
func decryptedBlock(key []byte, b block) block {
	out, _ := aes.Decrypt(key, b[:])
	return block(out)
}
