package digest_test

import (
	"bytes"
	"crypto/hmac"
	"crypto/md5"
	"encoding/hex"
	"math/rand"
	"testing"

	"wherry/digest"
)

func show(d [16]byte) string { return hex.EncodeToString(d[:]) }

// TestSumKnown has the digests of RFC 1321, section A.5.
func TestSumKnown(t *testing.T) {
	for s, want := range map[string]string{
		"":    "d41d8cd98f00b204e9800998ecf8427e",
		"a":   "0cc175b9c0f1b6a831c399e269772661",
		"abc": "900150983cd24fb0d6963f7d28e17f72",
		"12345678901234567890123456789012345678901234567890123456789012345678901234567890": "57edf4a22be3c955ac49da2e2107b67a",
	} {
		if got := show(digest.Sum([]byte(s))); got != want {
			t.Error(s, got)
		}
	}
}

// TestKeyedKnown has the digests of RFC 2104.
func TestKeyedKnown(t *testing.T) {
	for k, c := range []struct {
		key, text []byte
		want      string
	}{
		{bytes.Repeat([]byte{0x0b}, 16), []byte("Hi There"), "9294727a3638bb1c13f48ef8158bfc9d"},
		{[]byte("Jefe"), []byte("what do ya want for nothing?"), "750c783e6ab0b503eaa86e310a5db738"},
		{bytes.Repeat([]byte{0xaa}, 16), bytes.Repeat([]byte{0xdd}, 50), "56be34521d144c88dbb8c733f0e8b3f6"},
	} {
		if got := show(digest.Keyed(c.key, c.text)); got != c.want {
			t.Error(k, got)
		}
	}
}

func TestLikeTheLibrary(t *testing.T) {
	rnd := rand.New(rand.NewSource(1))
	noise := make([]byte, 1000)
	rnd.Read(noise)
	for n := range 300 {
		b := bytes.Clone(noise[:n])
		if got := digest.Sum(noise[:n]); got != md5.Sum(b) {
			t.Fatal(n, got)
		}
		for _, size := range []int{0, 1, 20, 55, 56, 63, 64, 65, 66, 128, 200} {
			key := bytes.Clone(noise[500 : 500+size])
			h := hmac.New(md5.New, key)
			h.Write(b)
			got := digest.Keyed(noise[500:500+size], noise[:n])
			if !bytes.Equal(got[:], h.Sum(nil)) {
				t.Fatal(n, size, got)
			}
			if !bytes.Equal(key, noise[500:500+size]) {
				t.Fatal("the key was changed")
			}
		}
		if !bytes.Equal(b, noise[:n]) {
			t.Fatal("the argument was changed")
		}
	}
	long := bytes.Repeat([]byte("wherry"), 50000)
	if digest.Sum(long) != md5.Sum(long) {
		t.Error("a long byte string")
	}
}

// TestRoomIsLeft has keys and texts with unused capacity, which must stay as it is.
func TestRoomIsLeft(t *testing.T) {
	b := bytes.Repeat([]byte{7}, 300)
	digest.Sum(b[:60])
	digest.Keyed(b[:10], b[100:110])
	digest.Keyed(b[:70], b[100:200])
	if !bytes.Equal(b, bytes.Repeat([]byte{7}, 300)) {
		t.Error("memory beyond the length was written")
	}
}

// TestLongKey is promise P9.2.
func TestLongKey(t *testing.T) {
	for n := 60; n < 140; n++ {
		key := bytes.Repeat([]byte{byte(n)}, n)
		d := digest.Sum(key)
		same := digest.Keyed(key, []byte("text")) == digest.Keyed(d[:], []byte("text"))
		if same != (n > 64) {
			t.Error(n)
		}
	}
}
