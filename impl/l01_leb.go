package impl

const (
	LebOk    = 0
	LebShort = 1
	LebLong  = 2
	LebBits  = 3
)

type LebRes struct {
	Err  int64
	Val  uint64
	Next int64
}

const (
	lebGroup = 7    // bits a byte carries
	lebMore  = 0x80 // set in every byte but the last
	lebWide  = 64   // the widest number there is
)

// lebNumber has both kinds of number: shifts to the right fill with zeros in
// the one and with the sign in the other, which is all that sets them apart.
type lebNumber interface {
	int64 | uint64
}

// lebCut keeps the lowest width bits of x, and lets them go on upwards as N's
// kind does. So x fits in width bits exactly when it is its own cut.
func lebCut[N lebNumber](x N, width int64) N {
	if width >= lebWide {
		return x
	}
	room := uint64(lebWide - width)
	return x << room >> room
}

func lebPut[N lebNumber](x N) []byte {
	out := []byte{}
	for lebCut(x, lebGroup) != x {
		out = append(out, byte(x)|lebMore)
		x >>= lebGroup
	}
	return append(out, byte(x)&^lebMore)
}

func lebGet[N lebNumber](b []byte, at int64, bits int64) LebRes {
	size := int64(len(b))
	if bits < 1 || bits > lebWide {
		bits = lebWide
	}
	// Ahead of the loop, as at+k could wrap round at a place far outside.
	if at < 0 || at > size {
		return LebRes{Err: LebShort, Next: size}
	}
	var x N
	for k := int64(0); ; k++ {
		if at+k == size {
			return LebRes{Err: LebShort, Next: size}
		}
		c := b[at+k]
		next := at + k + 1
		if err := lebLast[N](c, bits-lebGroup*k); err != LebOk {
			return LebRes{Err: err, Next: next}
		}
		x |= N(c&^lebMore) << uint64(lebGroup*k)
		if c < lebMore {
			return LebRes{Val: uint64(lebCut(x, lebGroup*(k+1))), Next: next}
		}
	}
}

// lebLast is what is wrong with byte c where room bits are still to be had.
func lebLast[N lebNumber](c byte, room int64) int64 {
	if room > lebGroup {
		return LebOk
	}
	if c >= lebMore {
		return LebLong
	}
	// As a number of its own kind, since the sign stands in the group's top bit.
	group := lebCut(N(c), lebGroup)
	if lebCut(group, room) != group {
		return LebBits
	}
	return LebOk
}

func PutU(x uint64) []byte { return lebPut(x) }

func PutS(x int64) []byte { return lebPut(x) }

func GetU(b []byte, at int64, bits int64) LebRes { return lebGet[uint64](b, at, bits) }

func GetS(b []byte, at int64, bits int64) LebRes { return lebGet[int64](b, at, bits) }

const (
	utf8Low  = 0x80 // the ends of what follows in a character,
	utf8High = 0xbf // where its first byte asks for nothing narrower
)

// utf8Lead tells how many bytes follow the first byte c of a character (-1 if
// none begins so), and between which ends the next one must be: a narrower
// range there shuts out writings too long, surrogates and what is too high.
func utf8Lead(c byte) (left int64, low byte, high byte) {
	switch {
	case c <= 0x7f:
		return 0, 0, 0
	case c < 0xc2 || c > 0xf4:
		return -1, 0, 0
	case c <= 0xdf:
		return 1, utf8Low, utf8High
	case c == 0xe0:
		return 2, 0xa0, utf8High
	case c == 0xed:
		return 2, utf8Low, 0x9f
	case c <= 0xef:
		return 2, utf8Low, utf8High
	case c == 0xf0:
		return 3, 0x90, utf8High
	case c == 0xf4:
		return 3, utf8Low, 0x8f
	}
	return 3, utf8Low, utf8High
}

func Utf8Fault(b []byte) int64 {
	var at, left int64
	var low, high byte
	size := int64(len(b))

first:
	if at == size {
		return -1
	}
	left, low, high = utf8Lead(b[at])
	if left < 0 {
		goto fault
	}
	at++
	if left == 0 {
		goto first
	}

follow:
	if at == size || b[at] < low || b[at] > high {
		goto fault
	}
	at++
	left--
	if left == 0 {
		goto first
	}
	low, high = utf8Low, utf8High
	goto follow

fault:
	return at
}
