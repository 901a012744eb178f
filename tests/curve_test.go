package tests

import (
	"bytes"
	"math/big"
	"math/rand"
	"testing"

	"loop.example/s02127/impl"
)

var oddLengths = []int{0, 1, 31, 33, 63, 64, 65, 96, 128, 1000}

// edgeNumbers256 stand around each border that chapter 4 names, below 2^256.
func edgeNumbers256() []*big.Int {
	var numbers []*big.Int
	for _, border := range []*big.Int{big.NewInt(0), modelL, modelP, powerOfTwo(64), powerOfTwo(128), powerOfTwo(192), powerOfTwo(252), powerOfTwo(253), powerOfTwo(255), powerOfTwo(256)} {
		for step := int64(-3); step <= 3; step++ {
			numbers = append(numbers, plus(border, step))
		}
	}
	for k := int64(2); k <= 16; k++ {
		for step := int64(-1); step <= 1; step++ {
			numbers = append(numbers, plus(new(big.Int).Mul(modelL, big.NewInt(k)), step))
		}
	}
	for bit := range uint(256) {
		numbers = append(numbers, powerOfTwo(bit), new(big.Int).Xor(modelL, powerOfTwo(bit)))
	}
	return within(numbers, 256)
}

func within(numbers []*big.Int, size int) []*big.Int {
	var fit []*big.Int
	for _, n := range numbers {
		if n.Sign() >= 0 && n.BitLen() <= size {
			fit = append(fit, n)
		}
	}
	return fit
}

func TestScalarsBelowL(t *testing.T) {
	r := rand.New(rand.NewSource(8))
	numbers := edgeNumbers256()
	for range 300 {
		numbers = append(numbers, numberOf(randomText(r, 32)), new(big.Int).Rand(r, modelL))
	}
	for _, n := range numbers {
		if got := impl.ScalarOk(littleEndian(n, 32)); got != (n.Cmp(modelL) < 0) {
			t.Errorf("the scalar %x: %v", n, got)
		}
	}
}

func TestScalarsOfOtherLengths(t *testing.T) {
	for _, n := range oddLengths {
		if impl.ScalarOk(filled(n, 0)) || impl.ScalarOk(filled(n, 1)) {
			t.Errorf("a scalar of %d bytes", n)
		}
	}
	if impl.ScalarOk(nil) {
		t.Errorf("nil is a scalar")
	}
}

func wantReduced(t *testing.T, b []byte) {
	t.Helper()
	want := littleEndian(new(big.Int).Mod(numberOf(b), modelL), 32)
	if got := impl.ReduceScalar(b); !bytes.Equal(got, want) {
		t.Errorf("%x modulo L: %x, not %x", b, got, want)
	}
}

func TestReduceScalar(t *testing.T) {
	r := rand.New(rand.NewSource(9))
	for n := range 65 {
		for _, b := range [][]byte{filled(n, 0), filled(n, 1), filled(n, 255), ramp(n, 200), randomText(r, n), randomText(r, n), randomText(r, n)} {
			wantReduced(t, b)
		}
	}
	for _, n := range edgeNumbers256() {
		wantReduced(t, littleEndian(n, 32))
		wantReduced(t, littleEndian(n, 33))
		wantReduced(t, littleEndian(n, 64))
		wantReduced(t, littleEndian(new(big.Int).Lsh(n, 256), 64))
	}
	if got := impl.ReduceScalar(nil); !bytes.Equal(got, make([]byte, 32)) {
		t.Errorf("nil modulo L: %x", got)
	}
}

// Around each kind of multiple of L that has up to 64 bytes.
func TestReduceMultiples(t *testing.T) {
	r := rand.New(rand.NewSource(10))
	for range 300 {
		factor := numberOf(randomText(r, 1+r.Intn(32)))
		for step := int64(-1); step <= 1; step++ {
			n := plus(new(big.Int).Mul(modelL, factor), step)
			if n.Sign() >= 0 {
				wantReduced(t, littleEndian(n, 64))
			}
		}
	}
}

func TestTooLongToReduce(t *testing.T) {
	for _, n := range []int{65, 66, 96, 128, 1000} {
		if got := impl.ReduceScalar(filled(n, 0)); len(got) != 0 {
			t.Errorf("%d bytes modulo L: %x", n, got)
		}
	}
}

func wantPointOk(t *testing.T, code []byte) {
	t.Helper()
	if _, want := modelDecode(code); impl.PointOk(code) != want {
		t.Errorf("%x decodes: %v", code, !want)
	}
}

// withSign is the code with its highest bit as told.
func withSign(y *big.Int, odd bool) []byte {
	code := littleEndian(y, 32)
	if odd {
		code[31] |= 128
	}
	return code
}

func TestPointsByTheirY(t *testing.T) {
	r := rand.New(rand.NewSource(11))
	var ys []*big.Int
	for y := range int64(200) {
		ys = append(ys, big.NewInt(y), plus(modelP, y-180), plus(powerOfTwo(255), -1-y))
		ys = append(ys, new(big.Int).Rand(r, powerOfTwo(255)))
	}
	for bit := range uint(255) {
		ys = append(ys, powerOfTwo(bit), plus(powerOfTwo(bit), -1))
	}
	for _, y := range within(ys, 255) {
		wantPointOk(t, withSign(y, false))
		wantPointOk(t, withSign(y, true))
	}
}

func TestNamedCodes(t *testing.T) {
	codes := []struct {
		name string
		y    *big.Int
		odd  bool
		ok   bool
	}{
		{"the neutral point", big.NewInt(1), false, true},
		{"x = 0 with the sign, y = 1", big.NewInt(1), true, false},
		{"y = p - 1", plus(modelP, -1), false, true},
		{"x = 0 with the sign, y = p - 1", plus(modelP, -1), true, false},
		{"y = 0", big.NewInt(0), false, true},
		{"y = 0, odd", big.NewInt(0), true, true},
		{"y = p", modelP, false, false},
		{"y = p, odd", modelP, true, false},
		{"y = p + 1", plus(modelP, 1), false, false},
		{"y = p + 1, odd", plus(modelP, 1), true, false},
		{"y = 2^255 - 1", plus(powerOfTwo(255), -1), false, false},
		{"y = 2^255 - 1, odd", plus(powerOfTwo(255), -1), true, false},
		{"y = 2, which has no x", big.NewInt(2), false, false},
		{"y = 2, which has no x, odd", big.NewInt(2), true, false},
	}
	for _, c := range codes {
		code := withSign(c.y, c.odd)
		if impl.PointOk(code) != c.ok {
			t.Errorf("%s: %v", c.name, !c.ok)
		}
		if c.ok != (len(impl.PointAdd(code, impl.BasePoint())) == 32) || c.ok != (len(impl.PointAdd(impl.BasePoint(), code)) == 32) {
			t.Errorf("%s: sums", c.name)
		}
		if c.ok != (len(impl.PointMul(make([]byte, 32), code)) == 32) {
			t.Errorf("%s: products", c.name)
		}
	}
}

func TestTextsOfOtherLengths(t *testing.T) {
	base, two := impl.BasePoint(), littleEndian(big.NewInt(2), 32)
	for _, n := range oddLengths {
		for _, x := range [][]byte{filled(n, 0), append(append([]byte{}, base...), make([]byte, 1000)...)[:n]} {
			if impl.PointOk(x) {
				t.Errorf("a point of %d bytes", n)
			}
			if len(impl.PointAdd(x, base)) != 0 || len(impl.PointAdd(base, x)) != 0 || len(impl.PointAdd(x, x)) != 0 {
				t.Errorf("a sum with %d bytes", n)
			}
			if len(impl.PointMul(two, x)) != 0 || len(impl.PointMul(x, base)) != 0 || len(impl.PointMul(x, x)) != 0 {
				t.Errorf("a product with %d bytes", n)
			}
		}
	}
	if impl.PointOk(nil) || len(impl.PointAdd(nil, nil)) != 0 || len(impl.PointMul(nil, nil)) != 0 {
		t.Errorf("nil")
	}
}

func TestBasePoint(t *testing.T) {
	base := modelBase()
	if !base.onCurve() || base.x.Bit(0) != 0 || !bytes.Equal(impl.BasePoint(), base.code()) {
		t.Errorf("the base point: %x", impl.BasePoint())
	}
	first, second := impl.BasePoint(), impl.BasePoint()
	wantApart(t, "BasePoint", [][]byte{first[:cap(first)], second[:cap(second)]}, nil)
}

func wantSum(t *testing.T, p, q modelPoint) {
	t.Helper()
	want := p.plus(q).code()
	there, back := impl.PointAdd(p.code(), q.code()), impl.PointAdd(q.code(), p.code())
	if !bytes.Equal(there, want) || !bytes.Equal(back, want) {
		t.Errorf("%x + %x: %x, the other way %x, not %x", p.code(), q.code(), there, back, want)
	}
}

func TestSums(t *testing.T) {
	r := rand.New(rand.NewSource(12))
	points := mixedPoints(r)
	for i, p := range points {
		for _, q := range points[i:] {
			wantSum(t, p, q)
		}
		wantSum(t, p, p.opposite())
		wantSum(t, p, modelNeutral())
	}
	for range 300 {
		wantSum(t, randomPoint(r), randomPoint(r))
	}
}

func TestSumsWithTheOpposite(t *testing.T) {
	neutral := modelNeutral().code()
	for _, p := range mixedPoints(rand.New(rand.NewSource(13))) {
		if got := impl.PointAdd(p.code(), p.opposite().code()); !bytes.Equal(got, neutral) {
			t.Errorf("%x and its opposite: %x", p.code(), got)
		}
		if got := impl.PointAdd(neutral, p.code()); !bytes.Equal(got, p.code()) {
			t.Errorf("%x and the neutral point: %x", p.code(), got)
		}
	}
}

func TestSmallOrders(t *testing.T) {
	points := smallOrders()
	orders := []int64{1, 8, 4, 8, 2, 8, 4, 8}
	for i, p := range points {
		if !impl.PointOk(p.code()) {
			t.Errorf("%x is a point", p.code())
		}
		for k := int64(1); k <= 8; k++ {
			neutral := bytes.Equal(impl.PointMul(littleEndian(big.NewInt(k), 32), p.code()), modelNeutral().code())
			if neutral != (k%orders[i] == 0) {
				t.Errorf("[%d] of %x, of order %d: %v", k, p.code(), orders[i], neutral)
			}
		}
	}
}

func wantProduct(t *testing.T, k *big.Int, p modelPoint) {
	t.Helper()
	want := p.times(k).code()
	if got := impl.PointMul(littleEndian(k, 32), p.code()); !bytes.Equal(got, want) {
		t.Errorf("[%x]%x: %x, not %x", k, p.code(), got, want)
	}
}

// A k beyond L is not reduced: at a point that has a part of small order this shows.
func TestProducts(t *testing.T) {
	r := rand.New(rand.NewSource(14))
	points := mixedPoints(r)
	edges := []*big.Int{big.NewInt(0), big.NewInt(1), big.NewInt(2), big.NewInt(8), plus(modelL, -1), modelL, plus(modelL, 1), new(big.Int).Mul(modelL, big.NewInt(8)), powerOfTwo(255), plus(powerOfTwo(256), -1)}
	for _, p := range points {
		for _, k := range edges {
			wantProduct(t, k, p)
		}
		wantProduct(t, numberOf(randomText(r, 32)), p)
	}
	for bit := range uint(256) {
		wantProduct(t, powerOfTwo(bit), points[int(bit)%len(points)])
	}
}

func TestNamedProducts(t *testing.T) {
	neutral := modelNeutral().code()
	if got := impl.PointMul(littleEndian(modelL, 32), impl.BasePoint()); !bytes.Equal(got, neutral) {
		t.Errorf("[L]B: %x", got)
	}
	mixed := modelBase().plus(smallOrders()[1]).code()
	if got := impl.PointMul(littleEndian(modelL, 32), mixed); bytes.Equal(got, neutral) || len(got) != 32 {
		t.Errorf("[L] of a point with a part of order 8: %x", got)
	}
	for _, p := range [][]byte{impl.BasePoint(), mixed, neutral} {
		if got := impl.PointMul(make([]byte, 32), p); !bytes.Equal(got, neutral) {
			t.Errorf("[0]%x: %x", p, got)
		}
		if got := impl.PointMul(littleEndian(big.NewInt(1), 32), p); !bytes.Equal(got, p) {
			t.Errorf("[1]%x: %x", p, got)
		}
	}
}

// wantDistributed needs no model: it is promise 5 itself.
func wantDistributed(t *testing.T, a, b *big.Int, p []byte) {
	t.Helper()
	sum := new(big.Int).Add(a, b)
	if sum.BitLen() > 256 {
		return
	}
	apart := impl.PointAdd(impl.PointMul(littleEndian(a, 32), p), impl.PointMul(littleEndian(b, 32), p))
	if whole := impl.PointMul(littleEndian(sum, 32), p); len(whole) != 32 || !bytes.Equal(apart, whole) {
		t.Errorf("[%x] and [%x] of %x: %x, not %x", a, b, p, apart, whole)
	}
}

func TestProductsDistribute(t *testing.T) {
	r := rand.New(rand.NewSource(15))
	half := plus(powerOfTwo(255), -1)
	for _, p := range mixedPoints(r) {
		wantDistributed(t, half, powerOfTwo(255), p.code())
		wantDistributed(t, half, half, p.code())
		wantDistributed(t, modelL, plus(modelL, -1), p.code())
		wantDistributed(t, plus(powerOfTwo(256), -1), big.NewInt(0), p.code())
		wantDistributed(t, plus(powerOfTwo(256), -2), big.NewInt(1), p.code())
		for range 10 {
			wantDistributed(t, numberOf(randomText(r, 32)), numberOf(randomText(r, 31)), p.code())
			wantDistributed(t, new(big.Int).Rand(r, powerOfTwo(255)), new(big.Int).Rand(r, powerOfTwo(255)), p.code())
		}
	}
}

// curveTexts go to every function of chapter 4 in turn, good and bad ones.
func curveTexts() [][]byte {
	texts := [][]byte{nil, impl.BasePoint(), modelNeutral().code(), filled(32, 255), filled(32, 2), smallOrders()[1].code(), littleEndian(modelL, 32)}
	for _, n := range []int{0, 31, 33, 63, 64, 65} {
		texts = append(texts, ramp(n, 1))
	}
	return texts
}

func TestCurveIsNewMemory(t *testing.T) {
	for _, p := range curveTexts() {
		for _, q := range curveTexts() {
			a, b := withRoom(p), withRoom(q)
			given := [][]byte{a[:cap(a)], b[:cap(b)]}
			was := cloneLists(given)
			impl.ScalarOk(a)
			impl.PointOk(a)
			answers := [][]byte{impl.ReduceScalar(a), impl.PointAdd(a, b), impl.PointMul(a, b), impl.ReduceScalar(a), impl.PointAdd(a, b), impl.PointMul(a, b)}
			for i := range answers {
				answers[i] = answers[i][:cap(answers[i])]
			}
			if !bytes.Equal(given[0], was[0]) || !bytes.Equal(given[1], was[1]) {
				t.Fatalf("%x or %x has changed", p, q)
			}
			wantApart(t, "the curve", answers, given)
		}
	}
}

// One text given twice must not be in its own way.
func TestSameTextTwice(t *testing.T) {
	p := impl.BasePoint()
	if got := impl.PointAdd(p, p); !bytes.Equal(got, modelBase().plus(modelBase()).code()) || !bytes.Equal(p, impl.BasePoint()) {
		t.Errorf("B and B: %x", got)
	}
	if got := impl.PointMul(p, p); !bytes.Equal(got, modelBase().times(numberOf(p)).code()) || !bytes.Equal(p, impl.BasePoint()) {
		t.Errorf("[B]B: %x", got)
	}
}
