package tests

import (
	"bytes"
	"crypto/sha512"
	"encoding/hex"
	"math"
	"math/big"
	"math/rand"
	"strings"
	"testing"

	"loop.example/s02127/impl"
)

// rootPart is the first 64 bits behind the point of the root of p, by a search
// for the greatest r with r^power at most p * 2^(64*power).
func rootPart(p int64, power int64) uint64 {
	limit := new(big.Int).Lsh(big.NewInt(p), uint(64*power))
	root := new(big.Int)
	for bit := 80; bit >= 0; bit-- {
		root.SetBit(root, bit, 1)
		if new(big.Int).Exp(root, big.NewInt(power), nil).Cmp(limit) > 0 {
			root.SetBit(root, bit, 0)
		}
	}
	return new(big.Int).And(root, new(big.Int).SetUint64(math.MaxUint64)).Uint64()
}

func firstPrimes(n int) []int64 {
	var primes []int64
	for c := int64(2); len(primes) < n; c++ {
		if big.NewInt(c).ProbablyPrime(0) {
			primes = append(primes, c)
		}
	}
	return primes
}

func TestRoundConstants(t *testing.T) {
	primes := firstPrimes(80)
	if primes[79] != 409 {
		t.Fatalf("prime 79 is %d", primes[79])
	}
	for i, p := range primes {
		if got, want := impl.RoundConstant(int64(i)), rootPart(p, 3); got != want {
			t.Errorf("constant %d: %x, not %x", i, got, want)
		}
	}
	for i, p := range primes[:8] {
		if got, want := impl.RoundConstant(int64(80+i)), rootPart(p, 2); got != want {
			t.Errorf("constant %d: %x, not %x", 80+i, got, want)
		}
	}
}

func TestKnownRoundConstants(t *testing.T) {
	known := map[int64]uint64{
		0: 0x428a2f98d728ae22, 1: 0x7137449123ef65cd, 79: 0x6c44198c4a475817,
		80: 0x6a09e667f3bcc908, 81: 0xbb67ae8584caa73b, 87: 0x5be0cd19137e2179,
	}
	for at, want := range known {
		if got := impl.RoundConstant(at); got != want {
			t.Errorf("constant %d: %x, not %x", at, got, want)
		}
	}
}

// Some of these have a lowest part that is the number of a constant.
func TestNoOtherRoundConstants(t *testing.T) {
	others := []int64{-1, -2, -8, -79, -80, -88, -256, 88, 89, 95, 96, 128, 255, 256, 256 + 5, 1 << 31, 1<<32 + 3, -1<<32 + 80, math.MinInt64, math.MinInt64 + 1, math.MaxInt64}
	for _, at := range others {
		if got := impl.RoundConstant(at); got != 0 {
			t.Errorf("constant %d: %x", at, got)
		}
	}
}

// knownHashes are those of ramp(n, 3), told by another program.
var knownHashes = []struct {
	n    int
	hash string
}{
	{1, "e45bf5817ddf94aa2f7a407071f0eedc6beb98f768b4cd33d1176d44d1563a45a5d7212290eb7670c6786b13591aedac86478993895e8b24e612014abaa6ba04"},
	{110, "a915c6b13dc3bcb70211a6b7913896b606740d7e2341257db7db9b4a5aa3f0e650116aa3f56ad7e97c218da1a9c74043331631d747036d88cdcdb5c21fffcdb5"},
	{111, "68cffa6d0d76f309c9ce0d35280939f8e25990c43b7b086ccdf709be35b07d4ddba599541ff2b1c19d34ea49aeafb9659adb7ac3c0b078bb30a22d57fc6687ef"},
	{112, "d0865c524d1dddf7c23b799c413f5adcd7caefd3f66a9b49750ec81066012c25a8bcf94ddea6dc525691673097ca40e0101e897fc97218cfdb0704084e2bef4b"},
	{113, "606314353bd419f9f7720e8297f2af8a9ed5f0bb0bed29b716bf18e34577623ae7effa46f496bd4282134e7e895284a4760a910d2ad8ec11e9dd75863058cd9c"},
	{119, "236bdd7f38a611b5014b239245c381ae5d20a96f1e5b3178227c00056b7fa8c44ef54880085d82b7e20cd65f2bfda1326696c3f94a6a5bad0cb5ce289aa46167"},
	{120, "4bd16fefaa35cc2df9fbb8ff379ec04a4070ffd5d4992574af239fa175534df87cbedceeb96be08e15090a78b83a328a2900c5411683ab47bab914591048548f"},
	{127, "e0b6a20f1c0c88970a9340152cd5a1c1ecf3d3b8de55102741879438079473540133b812706e5dbec322c8c9523b6fc8c6d16ee626e87ad5fe3d2916afedc369"},
	{128, "99b16f17aa0b969a5b8f08f367719d516e330ccd2660b6f0688ec031dbc783de50a1cd185a2568dba75070a2403d17d4741d163578515dfd2ff756ddfe4d47b1"},
	{129, "a1556e29185778aa5991e34b8884c840d589f0fbb4b8ed590e51e9ac4eb03a008125000db2671f8fe7f485b59a77b518670078ecb41a54b4cd02a7f1d2ca4c6d"},
	{239, "18ee83f30261c3c645d52aee6a209105b25bba39d33845ef48984cc238e4f21661fb7bd7dd4336f71c40fe87d95e5115d6c7be52e0d3e7e7877d24500b5b58df"},
	{240, "9d60ee60d29ec4fa0b9690c04c1c29413bbe3ed345639182d9d53dcc05926b77b04f4fec1562fb85182954c96b7cbb5d5e4410251ff4f352d09a2da90419fb13"},
	{241, "4aa5b7994e3c6e0b8d72a6392d63edf07d60485a692445dac2d7fc91ea6ee98cabbd640bf3d1befd0d795af06489af3bd4d616d82d39585b82118115d8b7f970"},
	{255, "c2e3bb67012f9eb526202efa59997933f7d3e75e7ded738818bc27d94977f4573afddb1b2793745701e62affa3b7a1c8262c992a321f488a6b1942a4795bab98"},
	{256, "e49c208e41556e859d1a52d14784a061c2d5ae2c8690a5360e9f9344f60861c1362a9ec05a9f08a4167b3da41bdd122a387413dd06976470e4beff5053f2ac71"},
	{1000, "00e36fccf193e59697a92b5ab24666ce6326d7fa16bf10832d0991ddc591112e9dfa6a636950ed9c4d67344a760654c2ff7785e1d60094d651038735b5dccabd"},
}

func wantHash(t *testing.T, what string, msg []byte, want string) {
	t.Helper()
	if got := hex.EncodeToString(impl.Sha512(msg)); got != want {
		t.Errorf("the hash of %s: %s, not %s", what, got, want)
	}
}

func TestKnownHashes(t *testing.T) {
	for _, row := range knownHashes {
		wantHash(t, "a ramp", ramp(row.n, 3), row.hash)
	}
	empty := "cf83e1357eefb8bdf1542850d66d8007d620e4050b5715dc83f4a921d36ce9ce47d0d13c5d85f2b0ff8318d2877eec2f63b931bd47417a81a538327af927da3e"
	wantHash(t, "nil", nil, empty)
	wantHash(t, "the empty text", []byte{}, empty)
	wantHash(t, "abc", []byte("abc"), "ddaf35a193617abacc417349ae20413112e6fa4e89a97ea20a9eeee64b55d39a2192992a274fc1a836ba3c23a3feebbd454d4423643ce80e2a9ac94fa54ca49f")
	wantHash(t, "a million letters", []byte(strings.Repeat("a", 1000000)), "e718483d0ce769644e2e42c7bc15b4638e1f98b13b2044285632a803afa973ebde0ff244877ea60a4cb0432ce577c31beb009c5c2c49aa2e4eadb217ad8cc09b")
}

func TestHashesOfEveryLength(t *testing.T) {
	r := rand.New(rand.NewSource(6))
	for n := range 700 {
		for _, msg := range [][]byte{filled(n, 0), filled(n, 255), ramp(n, byte(n)), randomText(r, n)} {
			want := sha512.Sum512(msg)
			if got := impl.Sha512(msg); !bytes.Equal(got, want[:]) {
				t.Fatalf("the hash of %d bytes: %x, not %x", n, got, want)
			}
		}
	}
}

// The length needs its second byte from 32 bytes on, its third from 8192 on, and so forth.
func TestHashesOfLongTexts(t *testing.T) {
	r := rand.New(rand.NewSource(7))
	for _, n := range []int{8191, 8192, 8193, 65535, 65536, 100111, 100112, 1<<21 - 1, 1 << 21, 1<<21 + 240} {
		msg := randomText(r, n)
		want := sha512.Sum512(msg)
		if got := impl.Sha512(msg); !bytes.Equal(got, want[:]) {
			t.Errorf("the hash of %d bytes: %x, not %x", n, got, want)
		}
	}
}

func TestEveryBitCountsInTheHash(t *testing.T) {
	msg := ramp(250, 9)
	was := impl.Sha512(msg)
	for at := range msg {
		for bit := range 8 {
			msg[at] ^= 1 << bit
			if bytes.Equal(impl.Sha512(msg), was) {
				t.Fatalf("bit %d of byte %d does not count", bit, at)
			}
			msg[at] ^= 1 << bit
		}
	}
}

func TestHashingIsNewMemory(t *testing.T) {
	for _, n := range []int{0, 1, 64, 111, 112, 127, 128, 239, 240, 300} {
		msg := withRoom(ramp(n, 5))
		was := append([]byte{}, msg[:cap(msg)]...)
		first, second := impl.Sha512(msg), impl.Sha512(msg)
		if len(first) != impl.HashBytes || !bytes.Equal(msg[:cap(msg)], was) {
			t.Errorf("hashing %d bytes: %d bytes, or the message has changed", n, len(first))
		}
		wantApart(t, "Sha512", [][]byte{first[:cap(first)], second[:cap(second)]}, [][]byte{msg[:cap(msg)]})
	}
}
