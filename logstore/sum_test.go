package logstore_test

import (
	"bytes"
	"hash/crc32"
	"math/rand"
	"strings"
	"testing"

	"tollhouse/logstore"
)

// TestSum holds Sum against values that another program worked out.
func TestSum(t *testing.T) {
	for _, c := range []struct {
		text string
		want uint32
	}{
		{"", 0},
		{"a", 0xe8b7be43},
		{"\x00", 0xd202ef8d},
		{"\x01", 0xa505df1b},
		{"\x80", 0x3fba6cad},
		{"\xff", 0xff000000},
		{"123456789", 0xcbf43926},
		{"tollhouse", 0xd05a1350},
		{"\x00\x00\x00\x01", 0x5643ef8a},
		{"\x00\x00\x00\x00", 0x2144df1c},
		{"\xff\xff\xff\xff", 0xffffffff},
		{strings.Repeat("\x00", 32), 0x190a55ad},
		{strings.Repeat("\xff", 32), 0xff6cab0b},
		{"The quick brown fox jumps over the lazy dog", 0x414fa339},
	} {
		if got := logstore.Sum([]byte(c.text)); got != c.want {
			t.Errorf("P15.1: Sum(%q) = %x, not %x", c.text, got, c.want)
		}
	}
	if got := logstore.Sum(nil); got != 0 {
		t.Errorf("P15.1: Sum(nil) = %x", got)
	}
	all := make([]byte, 256)
	for i := range all {
		all[i] = byte(i)
	}
	if got := logstore.Sum(bytes.Repeat(all, 4096)); got != 0x04d0e435 {
		t.Errorf("P15.1: Sum of 1048576 bytes = %x", got)
	}
}

// slow is the checksum word by word as the chapter has it.
func slow(b []byte) uint32 {
	register := uint32(0xffffffff)
	for _, c := range b {
		register ^= uint32(c)
		for i := 0; i < 8; i++ {
			if register%2 == 1 {
				register /= 2
				register ^= 0xedb88320
			} else {
				register /= 2
			}
		}
	}
	return 0xffffffff - register
}

// TestSumAll: all texts of a byte, and of two, and drawn ones of many lengths.
func TestSumAll(t *testing.T) {
	same := func(b []byte) {
		t.Helper()
		got := logstore.Sum(b)
		if want := slow(b); got != want || got != crc32.ChecksumIEEE(b) {
			t.Fatalf("P15.1: Sum(%s) = %x, not %x", short(string(b)), got, want)
		}
	}
	for i := range 256 {
		same([]byte{byte(i)})
		for j := range 256 {
			same([]byte{byte(i), byte(j)})
		}
	}
	draw := rand.New(rand.NewSource(1510))
	for n := range 400 {
		b := make([]byte, n)
		draw.Read(b)
		same(b)
	}
	for _, n := range []int{1000, 4095, 4096, 4097, 65535, 65536, 1<<20 + 1} {
		b := make([]byte, n)
		draw.Read(b)
		same(b)
	}
}

// TestSumTurned: each turned bit of a text gives another Sum.
func TestSumTurned(t *testing.T) {
	draw := rand.New(rand.NewSource(1511))
	for _, n := range []int{1, 2, 3, 4, 5, 8, 9, 31, 64, 100, 300, 1000} {
		for _, b := range [][]byte{make([]byte, n), bytes.Repeat([]byte{0xff}, n), drawnBytes(draw, n)} {
			whole := logstore.Sum(b)
			seen := map[uint32]bool{whole: true}
			for i := range 8 * n {
				b[i/8] ^= 1 << (i % 8)
				sum := logstore.Sum(b)
				if seen[sum] {
					t.Fatalf("P15.1: Sum of %d bytes is still %x, or the same as for another bit, with bit %d turned", n, sum, i)
				}
				seen[sum] = true
				b[i/8] ^= 1 << (i % 8)
			}
			if logstore.Sum(b) != whole {
				t.Fatalf("R6: Sum of the same %d bytes differs", n)
			}
		}
	}
}

func drawnBytes(draw *rand.Rand, n int) []byte {
	b := make([]byte, n)
	draw.Read(b)
	return b
}
