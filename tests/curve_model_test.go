package tests

import (
	"crypto/sha512"
	"math/big"
	"math/rand"
)

// The words of chapter 4 over big numbers: points are pairs, and sums divide.

func bigOf(s string) *big.Int {
	n, ok := new(big.Int).SetString(s, 10)
	if !ok {
		panic("no number: " + s)
	}
	return n
}

func powerOfTwo(n uint) *big.Int {
	return new(big.Int).Lsh(big.NewInt(1), n)
}

func plus(a *big.Int, b int64) *big.Int {
	return new(big.Int).Add(a, big.NewInt(b))
}

var (
	modelP = plus(powerOfTwo(255), -19)
	modelL = new(big.Int).Add(powerOfTwo(252), bigOf("27742317777372353535851937790883648493"))
	modelD = modelDivide(big.NewInt(-121665), big.NewInt(121666))
)

func modelMod(a *big.Int) *big.Int {
	return new(big.Int).Mod(a, modelP)
}

func modelTimes(factors ...*big.Int) *big.Int {
	product := big.NewInt(1)
	for _, f := range factors {
		product = modelMod(product.Mul(product, f))
	}
	return product
}

func modelDivide(a, b *big.Int) *big.Int {
	return modelTimes(a, new(big.Int).ModInverse(modelMod(b), modelP))
}

type modelPoint struct {
	x, y *big.Int
}

func modelNeutral() modelPoint {
	return modelPoint{big.NewInt(0), big.NewInt(1)}
}

func modelBase() modelPoint {
	p, ok := modelDecode(littleEndian(modelDivide(big.NewInt(4), big.NewInt(5)), 32))
	if !ok {
		panic("no base point")
	}
	return p
}

// littleEndian is n as a text of that many bytes, lowest first.
func littleEndian(n *big.Int, size int) []byte {
	b := n.FillBytes(make([]byte, size))
	for i := range size / 2 {
		b[i], b[size-1-i] = b[size-1-i], b[i]
	}
	return b
}

func numberOf(b []byte) *big.Int {
	turned := make([]byte, len(b))
	for i, x := range b {
		turned[len(b)-1-i] = x
	}
	return new(big.Int).SetBytes(turned)
}

func (p modelPoint) onCurve() bool {
	xx, yy := modelTimes(p.x, p.x), modelTimes(p.y, p.y)
	left := modelMod(new(big.Int).Sub(yy, xx))
	return left.Cmp(modelMod(plus(modelTimes(modelD, xx, yy), 1))) == 0
}

// code is that of the point; a y of p or more is taken as it is.
func (p modelPoint) code() []byte {
	b := littleEndian(p.y, 32)
	b[31] |= byte(p.x.Bit(0) << 7)
	return b
}

func modelDecode(b []byte) (modelPoint, bool) {
	if len(b) != 32 {
		return modelPoint{}, false
	}
	y := numberOf(b)
	odd := y.Bit(255)
	y.SetBit(y, 255, 0)
	if y.Cmp(modelP) >= 0 {
		return modelPoint{}, false
	}
	yy := modelTimes(y, y)
	xx := modelDivide(plus(yy, -1), plus(modelTimes(modelD, yy), 1))
	x := new(big.Int).ModSqrt(xx, modelP)
	if x == nil || x.Sign() == 0 && odd == 1 {
		return modelPoint{}, false
	}
	if x.Bit(0) != odd {
		x.Sub(modelP, x)
	}
	return modelPoint{x, y}, true
}

func (p modelPoint) plus(q modelPoint) modelPoint {
	dxxyy := modelTimes(modelD, p.x, q.x, p.y, q.y)
	one := big.NewInt(1)
	across := new(big.Int).Add(modelTimes(p.x, q.y), modelTimes(q.x, p.y))
	along := new(big.Int).Add(modelTimes(p.y, q.y), modelTimes(p.x, q.x))
	return modelPoint{modelDivide(across, new(big.Int).Add(one, dxxyy)), modelDivide(along, new(big.Int).Sub(one, dxxyy))}
}

func (p modelPoint) times(k *big.Int) modelPoint {
	sum := modelNeutral()
	for i := k.BitLen() - 1; i >= 0; i-- {
		sum = sum.plus(sum)
		if k.Bit(i) == 1 {
			sum = sum.plus(p)
		}
	}
	return sum
}

func (p modelPoint) opposite() modelPoint {
	return modelPoint{modelMod(new(big.Int).Neg(p.x)), p.y}
}

func (p modelPoint) equals(q modelPoint) bool {
	return p.x.Cmp(q.x) == 0 && p.y.Cmp(q.y) == 0
}

func modelChallenge(r, pub, msg []byte) *big.Int {
	hash := sha512.Sum512(append(append(append([]byte{}, r...), pub...), msg...))
	return new(big.Int).Mod(numberOf(hash[:]), modelL)
}

func modelVerify(pub, msg, sig []byte) bool {
	a, ok := modelDecode(pub)
	if !ok || len(sig) != 64 {
		return false
	}
	r, ok := modelDecode(sig[:32])
	s := numberOf(sig[32:])
	if !ok || s.Cmp(modelL) >= 0 {
		return false
	}
	return modelBase().times(s).equals(r.plus(a.times(modelChallenge(sig[:32], pub, msg))))
}

// smallOrders are the eight points whose order divides 8.
func smallOrders() []modelPoint {
	eighth := modelNeutral()
	for y := int64(2); eighth.times(big.NewInt(4)).equals(modelNeutral()); y++ {
		if p, ok := modelDecode(littleEndian(big.NewInt(y), 32)); ok {
			eighth = p.times(modelL)
		}
	}
	var points []modelPoint
	for k := range int64(8) {
		points = append(points, eighth.times(big.NewInt(k)))
	}
	return points
}

// randomPoint may have any order: with and without a part of small order.
func randomPoint(r *rand.Rand) modelPoint {
	for {
		if p, ok := modelDecode(randomText(r, 32)); ok {
			return p
		}
	}
}

// mixedPoints are points of every kind, few enough to take them in pairs.
func mixedPoints(r *rand.Rand) []modelPoint {
	base := modelBase()
	points := append(smallOrders(), base, base.opposite(), base.times(plus(modelL, -2)))
	points = append(points, base.plus(points[1]), base.plus(points[4]), base.opposite().plus(points[3]))
	for range 4 {
		points = append(points, randomPoint(r))
	}
	return points
}
