package cram_test

import (
	"bytes"
	"crypto/hmac"
	"crypto/md5"
	"encoding/base64"
	"encoding/hex"
	"math/rand"
	"testing"

	"wherry/api"
	"wherry/cram"
)

func TestEncodeKnown(t *testing.T) {
	for s, want := range map[string]string{
		"": "", "f": "Zg==", "fo": "Zm8=", "foo": "Zm9v", "foob": "Zm9vYg==", "fooba": "Zm9vYmE=", "foobar": "Zm9vYmFy", "\xfb\xff\xbf": "+/+/", "\x00\x00\x00": "AAAA", "\xff": "/w==",
	} {
		if got := cram.Encode([]byte(s)); got != want {
			t.Error(s, got)
		}
		if got, e := cram.Decode(want); string(got) != s || e != api.OK {
			t.Error(s, got, e)
		}
	}
}

func TestDecodeErrors(t *testing.T) {
	for _, s := range []string{
		"Z", "Zg", "Zg=", "Zg===", "Zg==Zg==", "=", "==", "===", "====", "Z===", "Zm9v=", "Zm9v====", "Zh==", "Zm9=", "Zm8=Zm9v", "Zg= =", " Zg==", "Zg==\r\n", "Zg==\n", "Zm9v\n", "Zm\n9v",
		"Zm9-", "Zm9_", "Zm9.", "Z\x00==", "\xff\xff\xff\xff", "Zm9vZ", "Zm9vYg", "Zm9vYg=", "Zm=v", "=m9v", "Zm9vY===", "ZÄ==", "A\u0100AA", "AA=A",
	} {
		if got, e := cram.Decode(s); e != api.ErrForm || len(got) != 0 {
			t.Errorf("%q %v %v", s, got, e)
		}
	}
}

func TestDecodeLikeTheLibrary(t *testing.T) {
	rnd := rand.New(rand.NewSource(1))
	const some = "AZaz09+/=gw=Q"
	for range 20000 {
		b := make([]byte, rnd.Intn(10))
		for i := range b {
			b[i] = some[rnd.Intn(len(some))]
		}
		want, err := base64.StdEncoding.Strict().DecodeString(string(b))
		got, e := cram.Decode(string(b))
		if (err == nil) != (e == api.OK) || err == nil && !bytes.Equal(got, want) || err != nil && (e != api.ErrForm || len(got) != 0) {
			t.Fatalf("%q %v %v %v", b, got, e, err)
		}
	}
}

// TestInverse is promise P10.2.
func TestInverse(t *testing.T) {
	rnd := rand.New(rand.NewSource(2))
	for n := range 200 {
		b := make([]byte, n)
		rnd.Read(b)
		s := cram.Encode(b)
		if s != base64.StdEncoding.EncodeToString(b) {
			t.Fatal(b, s)
		}
		got, e := cram.Decode(s)
		if e != api.OK || !bytes.Equal(got, b) {
			t.Fatal(b, got, e)
		}
		if h := cram.Hex(b); h != hex.EncodeToString(b) {
			t.Fatal(b, h)
		}
	}
}

func TestHexKnown(t *testing.T) {
	if h := cram.Hex([]byte{0, 9, 10, 15, 16, 0x9f, 0xa0, 255}); h != "00090a0f109fa0ff" || cram.Hex(nil) != "" {
		t.Error(h)
	}
}

// TestAnswer has the example of RFC 2195.
func TestAnswer(t *testing.T) {
	const challenge, want = "<1896.697170952@postoffice.reston.mci.net>", "dGltIGI5MTNhNjAyYzdlZGE3YTQ5NWI0ZTZlNzMzNGQzODkw"
	if got := cram.Answer("tim", "tanstaaftanstaaf", challenge); got != want {
		t.Error(got)
	}
	for _, c := range [][3]string{{"", "", ""}, {"u", "s", "c"}, {"a user", "a secret of more than sixty-four bytes, which is digested before it is used", "<1@b>"}} {
		h := hmac.New(md5.New, []byte(c[1]))
		h.Write([]byte(c[2]))
		want := base64.StdEncoding.EncodeToString([]byte(c[0] + " " + hex.EncodeToString(h.Sum(nil))))
		if got := cram.Answer(c[0], c[1], c[2]); got != want {
			t.Error(c, got)
		}
	}
}

func TestVerify(t *testing.T) {
	line := cram.Answer("tim", "secret", "<1@b>")
	for k, c := range []struct {
		user, secret, challenge, line string
		want                          bool
	}{
		{"tim", "secret", "<1@b>", line, true}, {"tim", "secret", "<1@b>", line + " ", false}, {"tim", "secret", "<1@b>", line[:len(line)-1], false}, {"tim", "secret", "<1@b>", "", false}, {"tim", "secret", "<1@b>", "A" + line[1:], false},
		{"Tim", "secret", "<1@b>", line, false}, {"tim", "Secret", "<1@b>", line, false}, {"tim", "secret", "<2@b>", line, false}, {"", "", "", cram.Answer("", "", ""), true}, {"", "", "", "", false},
	} {
		if got := cram.Verify(c.user, c.secret, c.challenge, c.line); got != c.want {
			t.Error(k, got)
		}
	}
}
