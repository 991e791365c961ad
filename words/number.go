package words

import (
	"math"
	"strconv"
	"strings"

	"marshal/api"
	"marshal/fault"
)

// hexDigits is how many may stand behind 0x, noughts ahead among them.
const hexDigits = 8

func number(text string, at int) Word {
	hex, isHex := strings.CutPrefix(text, "0x")
	n, ok := int64(0), false
	if isHex {
		n, ok = hexadecimal(hex)
	} else {
		n, ok = decimal(text)
	}
	if !ok {
		panic(fault.New(api.ErrNumber, at))
	}
	return Word{Kind: Number, Text: text, N: n, At: at}
}

func hexadecimal(digits string) (int64, bool) {
	if len(digits) > hexDigits {
		return 0, false
	}
	n, err := strconv.ParseUint(digits, 16, 32)
	return int64(n), err == nil
}

func decimal(text string) (int64, bool) {
	digits := strings.TrimPrefix(text, "-")
	if len(digits) > 1 && digits[0] == '0' {
		return 0, false
	}
	n, err := strconv.ParseInt(text, 10, 64)
	return n, err == nil && math.MinInt32 <= n && n <= math.MaxUint32
}
