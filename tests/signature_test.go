package tests

import (
	"bytes"
	"crypto/ed25519"
	"encoding/hex"
	"math/big"
	"math/rand"
	"testing"

	"loop.example/s02127/impl"
)

func hexText(s string) []byte {
	b, err := hex.DecodeString(s)
	if err != nil {
		panic(err)
	}
	return b
}

// signed is a good signature, by the library.
type signed struct {
	pub, msg, sig []byte
}

func signedBy(seed byte, msg []byte) signed {
	key := ed25519.NewKeyFromSeed(filled(32, seed))
	return signed{key.Public().(ed25519.PublicKey), msg, ed25519.Sign(key, msg)}
}

func wantVerified(t *testing.T, what string, pub, msg, sig []byte, want bool) {
	t.Helper()
	if got := impl.VerifySig(pub, msg, sig); got != want {
		t.Errorf("%s: %v: key %x, message %x, signature %x", what, got, pub, msg, sig)
	}
}

// wantAsModelled answers what the model says, for tests that count both answers.
func wantAsModelled(t *testing.T, what string, pub, msg, sig []byte) bool {
	t.Helper()
	want := modelVerify(pub, msg, sig)
	wantVerified(t, what, pub, msg, sig, want)
	return want
}

// The first three of RFC 8032, chapter 7.1.
func TestKnownSignatures(t *testing.T) {
	rows := []signed{
		{hexText("d75a980182b10ab7d54bfed3c964073a0ee172f3daa62325af021a68f707511a"), nil, hexText("e5564300c360ac729086e2cc806e828a84877f1eb8e5d974d873e065224901555fb8821590a33bacc61e39701cf9b46bd25bf5f0595bbe24655141438e7a100b")},
		{hexText("3d4017c3e843895a92b70aa74d1b7ebc9c982ccf2ec4968cc0cd55f12af4660c"), hexText("72"), hexText("92a009a9f0d4cab8720e820b5f642540a2b27b5416503f8fb3762223ebdb69da085ac1e43e15996e458f3613d0f11d8c387b2eaeb4302aeeb00d291612bb0c00")},
		{hexText("fc51cd8e6218a1a38da47ed00230f0580816ed13ba3303ac5deb911548908025"), hexText("af82"), hexText("6291d657deec24024827e69c3abe01a30ce548a284743a445e3680d7db5ac3ac18ff9b538d16f290ae67f760984dc6594a7c15e9716ed28dc027beceea1ec40a")},
	}
	for i, row := range rows {
		wantVerified(t, "a known signature", row.pub, row.msg, row.sig, true)
		other := rows[(i+1)%len(rows)]
		wantVerified(t, "another key", other.pub, row.msg, row.sig, false)
		wantVerified(t, "another message", row.pub, other.msg, row.sig, false)
		wantVerified(t, "another signature", row.pub, row.msg, other.sig, false)
		wantVerified(t, "halves of two", row.pub, row.msg, append(append([]byte{}, row.sig[:32]...), other.sig[32:]...), false)
		wantVerified(t, "halves changed", row.pub, row.msg, append(append([]byte{}, row.sig[32:]...), row.sig[:32]...), false)
	}
}

func TestGoodSignatures(t *testing.T) {
	r := rand.New(rand.NewSource(16))
	for n := range 140 {
		s := signedBy(byte(n), randomText(r, n))
		wantVerified(t, "a good signature", s.pub, s.msg, s.sig, true)
	}
	for _, n := range []int{191, 192, 300, 1023, 20000} {
		s := signedBy(byte(n), randomText(r, n))
		wantVerified(t, "a long message", s.pub, s.msg, s.sig, true)
		wantVerified(t, "a long message without its end", s.pub, s.msg[:n-1], s.sig, false)
	}
}

func TestEveryBitOfASignature(t *testing.T) {
	s := signedBy(77, []byte("T1 and some"))
	for _, part := range [][]byte{s.pub, s.msg, s.sig} {
		for at := range part {
			for bit := range 8 {
				part[at] ^= 1 << bit
				wantVerified(t, "one bit changed", s.pub, s.msg, s.sig, false)
				part[at] ^= 1 << bit
			}
		}
	}
	wantVerified(t, "all as it was", s.pub, s.msg, s.sig, true)
}

func TestSignaturesOfOtherLengths(t *testing.T) {
	s := signedBy(3, []byte("message"))
	long := append(append([]byte{}, s.sig...), make([]byte, 100)...)
	for n := range long {
		wantVerified(t, "a signature of another length", s.pub, s.msg, long[:n], n == 64)
	}
	wide := append(append([]byte{}, s.pub...), make([]byte, 100)...)
	for n := range wide {
		wantVerified(t, "a key of another length", wide[:n], s.msg, s.sig, n == 32)
	}
	wantVerified(t, "nothing", nil, nil, nil, false)
	wantVerified(t, "no key", nil, s.msg, s.sig, false)
	wantVerified(t, "no signature", s.pub, s.msg, nil, false)
	wantVerified(t, "a moved border", s.pub[:31], s.msg, append([]byte{s.pub[31]}, s.sig...), false)
}

// [S + kL]B is [S]B; only the rule for S can refuse it.
func TestGreaterSIsRefused(t *testing.T) {
	for seed := range byte(4) {
		s := signedBy(seed, []byte{seed})
		scalar := numberOf(s.sig[32:])
		for k := int64(1); k < 16; k++ {
			more := new(big.Int).Add(scalar, new(big.Int).Mul(modelL, big.NewInt(k)))
			if more.BitLen() <= 256 {
				wantVerified(t, "a greater S", s.pub, s.msg, append(append([]byte{}, s.sig[:32]...), littleEndian(more, 32)...), false)
			}
		}
	}
}

// At the neutral key every message is signed by ([S]B, S), S below L.
func TestEdgesOfS(t *testing.T) {
	neutral := modelNeutral().code()
	for _, c := range []struct {
		s  *big.Int
		ok bool
	}{
		{big.NewInt(0), true}, {big.NewInt(1), true}, {plus(modelL, -1), true},
		{modelL, false}, {plus(modelL, 1), false}, {powerOfTwo(252), true}, {powerOfTwo(253), false}, {plus(powerOfTwo(256), -1), false},
	} {
		sig := append(modelBase().times(c.s).code(), littleEndian(c.s, 32)...)
		wantVerified(t, "S at its edge", neutral, []byte("any"), sig, c.ok)
		wantVerified(t, "S at its edge, another message", neutral, nil, sig, c.ok)
	}
}

// A lenient reader would take these for the neutral point, or for that of order 2.
func TestCodesThatAreNotCanonical(t *testing.T) {
	neutral, half := modelNeutral().code(), smallOrders()[4].code()
	zero := make([]byte, 32)
	other := [][]byte{withSign(plus(modelP, 1), false), withSign(plus(modelP, 1), true), withSign(big.NewInt(1), true), withSign(plus(modelP, -1), true)}
	for _, code := range other {
		wantVerified(t, "a key that is not canonical", code, nil, append(append([]byte{}, neutral...), zero...), false)
		wantVerified(t, "an R that is not canonical", neutral, nil, append(append([]byte{}, code...), zero...), false)
	}
	wantVerified(t, "the neutral point as key and R", neutral, nil, append(append([]byte{}, neutral...), zero...), true)
	wantVerified(t, "the order 2 as R", neutral, nil, append(append([]byte{}, half...), zero...), false)
}

// Whether [k]A hits R hangs on the message: both answers must come.
func TestSmallOrderKeysAndNonces(t *testing.T) {
	points := smallOrders()
	good, bad := 0, 0
	for i, a := range points {
		for j, r := range points {
			for m := range byte(3) {
				s := big.NewInt(int64(m) * 5)
				sig := append(r.plus(modelBase().times(s)).code(), littleEndian(s, 32)...)
				if wantAsModelled(t, "points of small order", a.code(), []byte{byte(i), byte(j), m}, sig) {
					good++
				} else {
					bad++
				}
			}
		}
	}
	if good < 10 || bad < 10 {
		t.Errorf("%d good and %d bad", good, bad)
	}
}

// signMixed signs with the key [a]B + keyPart and the nonce [r]B + noncePart.
func signMixed(a, r *big.Int, keyPart, noncePart modelPoint, msg []byte) signed {
	pub := modelBase().times(a).plus(keyPart).code()
	nonce := modelBase().times(r).plus(noncePart).code()
	s := new(big.Int).Mul(modelChallenge(nonce, pub, msg), a)
	s.Mod(s.Add(s, r), modelL)
	return signed{pub, msg, append(nonce, littleEndian(s, 32)...)}
}

// Eight times both sides would be equal in all of these.
func TestThereIsNoFactorEight(t *testing.T) {
	small := smallOrders()
	a, r := bigOf("1234567890123456789012345678901234567890"), bigOf("98765432109876543210987654321098765432109876")
	for i, part := range small {
		s := signMixed(a, r, small[0], part, []byte("factor"))
		wantVerified(t, "R with a part of small order", s.pub, s.msg, s.sig, i == 0)
	}
	good, bad := 0, 0
	for _, part := range small[1:] {
		for m := range byte(12) {
			s := signMixed(a, r, part, small[0], []byte{m})
			if wantAsModelled(t, "a key with a part of small order", s.pub, s.msg, s.sig) {
				good++
			} else {
				bad++
			}
		}
	}
	if good < 5 || bad < 5 {
		t.Errorf("%d good and %d bad", good, bad)
	}
}

func TestSignaturesOfChance(t *testing.T) {
	r := rand.New(rand.NewSource(17))
	points := mixedPoints(r)
	for range 60 {
		key, nonce := points[r.Intn(len(points))].code(), points[r.Intn(len(points))].code()
		s := littleEndian(new(big.Int).Rand(r, modelL), 32)
		wantAsModelled(t, "parts of chance", key, randomText(r, r.Intn(5)), append(nonce, s...))
		good := signMixed(new(big.Int).Rand(r, modelL), new(big.Int).Rand(r, modelL), points[0], points[0], randomText(r, r.Intn(200)))
		wantVerified(t, "a signature of chance", good.pub, good.msg, good.sig, true)
	}
}

func TestVerifyingChangesNothing(t *testing.T) {
	s := signedBy(9, []byte("quiet"))
	for _, c := range []signed{s, {s.pub[:31], s.msg, s.sig}, {s.pub, nil, s.sig}, {s.pub, s.msg, s.sig[:32]}, {s.pub, s.msg, filled(64, 255)}} {
		pub, msg, sig := withRoom(c.pub), withRoom(c.msg), withRoom(c.sig)
		given := [][]byte{pub[:cap(pub)], msg[:cap(msg)], sig[:cap(sig)]}
		was := cloneLists(given)
		first := impl.VerifySig(pub, msg, sig)
		if impl.VerifySig(pub, msg, sig) != first {
			t.Errorf("two answers to one question")
		}
		for i := range given {
			if !bytes.Equal(given[i], was[i]) {
				t.Errorf("argument %d has changed", i)
			}
		}
	}
}

// The parts may lie in one piece of memory, as in a ticket.
func TestPartsOfOneText(t *testing.T) {
	s := signedBy(11, []byte("T1345678"))
	whole := append(append(append([]byte{}, s.msg...), s.sig...), s.pub...)
	was := append([]byte{}, whole...)
	wantVerified(t, "parts of one text", whole[72:], whole[:8], whole[8:72], true)
	if !bytes.Equal(whole, was) {
		t.Errorf("the text has changed")
	}
}
