package sha2

import (
	"strings"
	"testing"
)

// P1.1: the padding is as short as possible, and its number of bits is exact
// even where 32 bits don't hold it. (Hashing so long an input would take too long.)
func TestPadding(t *testing.T) {
	million := strings.Repeat("a", 1000000)
	var long []string
	for range 2000 {
		long = append(long, million)
	}
	tests := []struct {
		size int
		l    []string
		want string
	}{
		{64, nil, "\x80" + strings.Repeat("\x00", 63)},
		{64, []string{million[:55]}, "\x80" + "\x00\x00\x00\x00\x00\x00\x01\xb8"},
		{64, []string{million[:30], million[:26]}, "\x80" + strings.Repeat("\x00", 63) + "\x00\x00\x00\x00\x00\x00\x01\xc0"},
		{64, long, "\x80" + strings.Repeat("\x00", 55) + "\x00\x00\x00\x03\xb9\xac\xa0\x00"},
		{128, []string{million[:111]}, "\x80" + strings.Repeat("\x00", 14) + "\x03\x78"},
		{128, []string{million[:112]}, "\x80" + strings.Repeat("\x00", 141) + "\x03\x80"},
		{128, long, "\x80" + strings.Repeat("\x00", 119) + "\x00\x00\x00\x03\xb9\xac\xa0\x00"},
	}
	for i, test := range tests {
		if got := padding(test.size, test.l); got != test.want {
			t.Errorf("%d: %d bytes %x, want %d bytes %x", i, len(got), got, len(test.want), test.want)
		}
	}
}
