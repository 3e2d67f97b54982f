// Package wire is layer 1, bytes of descriptors and records: see shared/doc/01-wire.md.
package wire

import (
	"slices"

	"soundservice/api"
)

type width interface{ uint16 | uint32 | uint64 }

func put[T width](b []byte, n T, size int) []byte {
	out := make([]byte, len(b), len(b)+size)
	copy(out, b)
	for i := range size {
		out = append(out, byte(n>>(8*i)))
	}
	return out
}

func get[T width](b []byte, at, size int) (T, int, api.Errno) {
	if at < 0 || at > len(b) {
		return 0, 0, api.ErrRange
	}
	if len(b)-at < size {
		return 0, 0, api.ErrShort
	}
	var n T
	for i := range size {
		n |= T(b[at+i]) << (8 * i)
	}
	return n, at + size, api.OK
}

// Put16 returns b followed by the 2 bytes of n.
func Put16(b []byte, n uint16) []byte { return put(b, n, 2) }

// Put32 returns b followed by the 4 bytes of n.
func Put32(b []byte, n uint32) []byte { return put(b, n, 4) }

// Put64 returns b followed by the 8 bytes of n.
func Put64(b []byte, n uint64) []byte { return put(b, n, 8) }

// PutText returns b followed by a length byte and the bytes of s.
func PutText(b []byte, s string) ([]byte, api.Errno) {
	if len(s) > api.MaxName {
		return nil, api.ErrLimit
	}
	return slices.Concat(b, []byte{byte(len(s))}, []byte(s)), api.OK
}

// Get16 returns the number of 2 bytes at an offset, and the offset after it.
func Get16(b []byte, at int) (uint16, int, api.Errno) { return get[uint16](b, at, 2) }

// Get32 returns the number of 4 bytes at an offset, and the offset after it.
func Get32(b []byte, at int) (uint32, int, api.Errno) { return get[uint32](b, at, 4) }

// Get64 returns the number of 8 bytes at an offset, and the offset after it.
func Get64(b []byte, at int) (uint64, int, api.Errno) { return get[uint64](b, at, 8) }

// GetText returns the string whose length byte is at an offset, and the offset after it.
func GetText(b []byte, at int) (string, int, api.Errno) {
	if at < 0 || at > len(b) {
		return "", 0, api.ErrRange
	}
	if at == len(b) {
		return "", 0, api.ErrShort
	}
	size := int(b[at])
	if size > api.MaxName {
		return "", 0, api.ErrLimit
	}
	if len(b)-at-1 < size {
		return "", 0, api.ErrShort
	}
	return string(b[at+1 : at+1+size]), at + 1 + size, api.OK
}

// Sum returns the CRC-32 of b.
func Sum(b []byte) uint32 {
	register := ^uint32(0)
	for _, x := range b {
		register ^= uint32(x)
		for range 8 {
			out := register & 1
			register >>= 1
			if out == 1 {
				register ^= 0xEDB88320
			}
		}
	}
	return ^register
}

// Hash returns the FNV-1a hash of b.
func Hash(b []byte) uint64 {
	h := uint64(14695981039346656037)
	for _, x := range b {
		h = (h ^ uint64(x)) * 1099511628211
	}
	return h
}
