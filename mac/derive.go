package mac

import "vestry/api"

func Extract(salt, secret []byte) [32]byte {
	return Hmac256(salt, secret)
}

func Expand(key, info []byte, n int) ([]byte, api.Errno) {
	if n < 0 {
		return nil, api.ErrArg
	}
	if n > api.MaxDerived {
		return nil, api.ErrLong
	}
	return expanded(block256(key), info, n), api.OK
}

func Derive(salt, secret, info []byte, n int) ([]byte, api.Errno) {
	key := Extract(salt, secret)
	return Expand(key[:], info, n)
}

// expanded never counts past a byte: MaxDerived is 255 sums of 32 bytes.
func expanded(block [size256]byte, info []byte, n int) []byte {
	out := make([]byte, n)
	var last []byte
	for at, count := 0, byte(1); at < n; count++ {
		sum := hmac256(block, numbered(last, info, count))
		at += copy(out[at:], sum[:])
		last = sum[:]
	}
	return out
}

// numbered is what one step of the expansion sums, in memory of its own: info is the caller's, with whatever room it has.
func numbered(last, info []byte, count byte) []byte {
	out := make([]byte, 0, len(last)+len(info)+1)
	out = append(out, last...)
	out = append(out, info...)
	return append(out, count)
}
