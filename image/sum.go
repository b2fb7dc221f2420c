package image

const polynomial = 0xEDB88320 // of IEEE's CRC-32, its highest power being the lowest bit

// Sum answers the CRC-32 of bytes.
func Sum(b []byte) uint32 {
	sum := ^uint32(0)
	for _, each := range b {
		sum ^= uint32(each)
		for range 8 {
			sum = sum>>1 ^ polynomial*(sum&1)
		}
	}
	return ^sum
}

// asBytes answers a sum's bytes, the lowest one first.
func asBytes(sum uint32) []byte {
	return []byte{byte(sum), byte(sum >> 8), byte(sum >> 16), byte(sum >> 24)}
}
