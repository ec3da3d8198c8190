package tests

import (
	"math/big"
	"math/rand"
	"testing"

	"loop.example/g00007/impl"
)

// bitsOps are the operations that BitsOp knows.
func bitsOps() []int {
	return []int{impl.OpEq, impl.OpBvNot, impl.OpBvNeg, impl.OpBvAnd, impl.OpBvOr, impl.OpBvXor, impl.OpBvAdd, impl.OpBvSub, impl.OpBvMul, impl.OpBvDiv,
		impl.OpBvRem, impl.OpBvShl, impl.OpBvShr, impl.OpBvSar, impl.OpBvUlt, impl.OpBvUle, impl.OpBvSlt, impl.OpBvSle}
}

func twoTo(w int) *big.Int {
	return new(big.Int).Lsh(big.NewInt(1), uint(w))
}

// A twoNumbers is a word as the library's numbers: without a sign, and in two's complement.
type twoNumbers struct {
	number *big.Int
	signed *big.Int
}

func plainWordOf(w int, n uint64) twoNumbers {
	number := new(big.Int).Mod(new(big.Int).SetUint64(n), twoTo(w))
	signed := new(big.Int).Set(number)
	if number.Cmp(twoTo(w-1)) >= 0 {
		signed.Sub(signed, twoTo(w))
	}
	return twoNumbers{number, signed}
}

// plainBits is BitsOp a second time, on numbers that have no width; what it gives is taken modulo 2^w.
func plainBits(op, w int, a, b uint64) uint64 {
	if w < 1 || w > 64 {
		return 0
	}
	x, y := plainWordOf(w, a), plainWordOf(w, b)
	z := plainCompared(op, x, y)
	if z == nil {
		z = plainCounted(op, w, x, y)
	}
	if z == nil {
		return 0
	}
	return z.Mod(z, twoTo(w)).Uint64()
}

func plainCompared(op int, x, y twoNumbers) *big.Int {
	holds := false
	switch op {
	case impl.OpEq:
		holds = x.number.Cmp(y.number) == 0
	case impl.OpBvUlt:
		holds = x.number.Cmp(y.number) < 0
	case impl.OpBvUle:
		holds = x.number.Cmp(y.number) <= 0
	case impl.OpBvSlt:
		holds = x.signed.Cmp(y.signed) < 0
	case impl.OpBvSle:
		holds = x.signed.Cmp(y.signed) <= 0
	default:
		return nil
	}
	if holds {
		return big.NewInt(1)
	}
	return big.NewInt(0)
}

func plainCounted(op, w int, x, y twoNumbers) *big.Int {
	z := new(big.Int)
	places := uint(w) // as many as change anything
	if y.number.Cmp(big.NewInt(int64(w))) < 0 {
		places = uint(y.number.Uint64())
	}
	zero := y.number.Sign() == 0
	switch op {
	case impl.OpBvNot:
		return z.Sub(z.Sub(twoTo(w), big.NewInt(1)), x.number)
	case impl.OpBvNeg:
		return z.Neg(x.number)
	case impl.OpBvAnd:
		return z.And(x.number, y.number)
	case impl.OpBvOr:
		return z.Or(x.number, y.number)
	case impl.OpBvXor:
		return z.Xor(x.number, y.number)
	case impl.OpBvAdd:
		return z.Add(x.number, y.number)
	case impl.OpBvSub:
		return z.Sub(x.number, y.number)
	case impl.OpBvMul:
		return z.Mul(x.number, y.number)
	case impl.OpBvDiv:
		if zero {
			return z.Sub(twoTo(w), big.NewInt(1))
		}
		return z.Div(x.number, y.number)
	case impl.OpBvRem:
		if zero {
			return z.Set(x.number)
		}
		return z.Mod(x.number, y.number)
	case impl.OpBvShl:
		return z.Lsh(x.number, places)
	case impl.OpBvShr:
		return z.Rsh(x.number, places)
	case impl.OpBvSar:
		return z.Div(x.signed, twoTo(int(places)))
	}
	return nil
}

func checkBits(t *testing.T, op, w int, a, b uint64) {
	t.Helper()
	if got, want := impl.BitsOp(op, w, a, b), plainBits(op, w, a, b); got != want {
		t.Errorf("BitsOp(%d, %d, %#x, %#x) = %#x, want %#x", op, w, a, b, got, want)
	}
}

func TestStage6Bits(t *testing.T) {
	const all = ^uint64(0)
	for _, c := range []struct {
		op, w      int
		a, b, want uint64
	}{
		{impl.OpEq, 4, 3, 3, 1}, {impl.OpEq, 4, 3, 5, 0}, {impl.OpEq, 4, 19, 3, 1}, {impl.OpEq, 64, all, all, 1}, {impl.OpEq, 64, all, all >> 1, 0},
		{impl.OpBvNot, 4, 5, 9, 10}, {impl.OpBvNot, 1, 0, 0, 1}, {impl.OpBvNot, 1, 1, 0, 0}, {impl.OpBvNot, 64, 0, 5, all}, {impl.OpBvNot, 4, 0xf5, 0, 10},
		{impl.OpBvNeg, 4, 1, 7, 15}, {impl.OpBvNeg, 4, 0, 7, 0}, {impl.OpBvNeg, 4, 8, 7, 8}, {impl.OpBvNeg, 1, 1, 0, 1}, {impl.OpBvNeg, 64, 1, 0, all}, {impl.OpBvNeg, 64, 1 << 63, 0, 1 << 63},
		{impl.OpBvAnd, 4, 12, 10, 8}, {impl.OpBvOr, 4, 12, 10, 14}, {impl.OpBvXor, 4, 12, 10, 6}, {impl.OpBvAnd, 4, 0xff, 0xff, 15}, {impl.OpBvOr, 4, 0x10, 0x20, 0}, {impl.OpBvXor, 64, all, 1, all - 1},
		{impl.OpBvAdd, 4, 15, 1, 0}, {impl.OpBvAdd, 64, all, 2, 1}, {impl.OpBvAdd, 1, 1, 1, 0}, {impl.OpBvSub, 4, 0, 1, 15}, {impl.OpBvSub, 64, 0, 1, all}, {impl.OpBvSub, 1, 0, 1, 1},
		{impl.OpBvMul, 4, 5, 7, 3}, {impl.OpBvMul, 64, 1 << 32, 1 << 32, 0}, {impl.OpBvMul, 64, all, all, 1}, {impl.OpBvMul, 1, 1, 1, 1},
		{impl.OpBvDiv, 4, 13, 4, 3}, {impl.OpBvDiv, 4, 13, 0, 15}, {impl.OpBvDiv, 4, 0, 0, 15}, {impl.OpBvDiv, 64, 5, 0, all}, {impl.OpBvDiv, 1, 0, 0, 1}, {impl.OpBvDiv, 4, 13, 16, 15}, {impl.OpBvDiv, 4, 0xf9, 0x12, 4},
		{impl.OpBvRem, 4, 13, 4, 1}, {impl.OpBvRem, 4, 13, 0, 13}, {impl.OpBvRem, 4, 0xfd, 0, 13}, {impl.OpBvRem, 64, all, 0, all}, {impl.OpBvRem, 4, 13, 16, 13}, {impl.OpBvRem, 4, 0, 0, 0},
		{impl.OpBvShl, 4, 3, 3, 8}, {impl.OpBvShl, 4, 3, 4, 0}, {impl.OpBvShl, 4, 3, 15, 0}, {impl.OpBvShl, 4, 3, 16, 3}, {impl.OpBvShl, 64, 3, 63, 1 << 63}, {impl.OpBvShl, 64, 3, 64, 0}, {impl.OpBvShl, 64, 3, all, 0},
		{impl.OpBvShr, 4, 12, 3, 1}, {impl.OpBvShr, 4, 12, 4, 0}, {impl.OpBvShr, 4, 12, 5, 0}, {impl.OpBvShr, 4, 0xfc, 1, 6}, {impl.OpBvShr, 64, 1 << 63, 63, 1}, {impl.OpBvShr, 64, all, 64, 0}, {impl.OpBvShr, 64, all, all, 0},
		{impl.OpBvSar, 4, 9, 1, 12}, {impl.OpBvSar, 4, 8, 3, 15}, {impl.OpBvSar, 4, 8, 4, 15}, {impl.OpBvSar, 4, 8, 9, 15}, {impl.OpBvSar, 4, 7, 4, 0}, {impl.OpBvSar, 4, 7, 2, 1}, {impl.OpBvSar, 4, 0xf7, 1, 3},
		{impl.OpBvSar, 64, 1 << 63, 63, all}, {impl.OpBvSar, 64, 1 << 63, 64, all}, {impl.OpBvSar, 64, 1 << 63, all, all}, {impl.OpBvSar, 64, all >> 1, all, 0}, {impl.OpBvSar, 1, 1, 1, 1}, {impl.OpBvSar, 1, 1, 0, 1},
		{impl.OpBvUlt, 4, 7, 8, 1}, {impl.OpBvUlt, 4, 8, 8, 0}, {impl.OpBvUlt, 4, 0xf7, 8, 1}, {impl.OpBvUle, 4, 8, 8, 1}, {impl.OpBvUle, 4, 9, 8, 0}, {impl.OpBvUlt, 64, all, 0, 0}, {impl.OpBvUle, 64, 0, all, 1},
		{impl.OpBvSlt, 4, 8, 7, 1}, {impl.OpBvSlt, 4, 7, 8, 0}, {impl.OpBvSlt, 4, 15, 0, 1}, {impl.OpBvSlt, 4, 8, 8, 0}, {impl.OpBvSle, 4, 8, 8, 1}, {impl.OpBvSle, 4, 0, 15, 0}, {impl.OpBvSle, 4, 0x17, 8, 0},
		{impl.OpBvSlt, 64, 1 << 63, all >> 1, 1}, {impl.OpBvSle, 64, all >> 1, 1 << 63, 0}, {impl.OpBvSlt, 1, 1, 0, 1}, {impl.OpBvSle, 1, 0, 1, 0},
	} {
		if got := impl.BitsOp(c.op, c.w, c.a, c.b); got != c.want {
			t.Errorf("BitsOp(%d, %d, %#x, %#x) = %#x, want %#x", c.op, c.w, c.a, c.b, got, c.want)
		}
		checkBits(t, c.op, c.w, c.a, c.b)
	}
}

func TestStage6BitsOfAllSmallWords(t *testing.T) {
	for _, op := range bitsOps() {
		for w := 1; w <= 5; w++ {
			for a := range uint64(1) << w {
				for b := range uint64(1) << w {
					checkBits(t, op, w, a, b)
				}
			}
		}
	}
}

// Words at the ends of what there is, for each width: beside 0, w, the greatest and the least in two's complement, with bits above w.
func TestStage6BitsAtEdges(t *testing.T) {
	for w := 1; w <= 64; w++ {
		var edges []uint64
		top := uint64(1) << (w - 1)
		for _, n := range []uint64{0, 1, 2, 3, uint64(w - 1), uint64(w), uint64(w + 1), 63, 64, 65, top - 1, top, top + 1, 2*top - 1, 2*top - 2, 2 * top, 2*top + 1,
			2*top + uint64(w), ^uint64(0), ^uint64(0) - 1, 1 << 63, 1<<63 - 1, 1<<63 + 1} {
			edges = append(edges, n)
		}
		for _, op := range bitsOps() {
			for _, a := range edges {
				for _, b := range edges {
					checkBits(t, op, w, a, b)
				}
			}
		}
	}
}

func TestStage6DrawnBits(t *testing.T) {
	r := rand.New(rand.NewSource(65))
	for range 2000 {
		w := 1 + r.Intn(64)
		a, b := r.Uint64()>>r.Intn(64), r.Uint64()>>r.Intn(64)
		for _, op := range bitsOps() {
			checkBits(t, op, w, a, b)
			mask := ^uint64(0) >> (64 - w)
			if impl.BitsOp(op, w, a, b) != impl.BitsOp(op, w, a&mask, b&mask) || impl.BitsOp(op, w, a, b) > mask {
				t.Errorf("BitsOp(%d, %d, %#x, %#x) looks above its width, or gives it", op, w, a, b)
			}
		}
		for _, op := range []int{impl.OpBvNot, impl.OpBvNeg} {
			if impl.BitsOp(op, w, a, b) != impl.BitsOp(op, w, a, 0) {
				t.Errorf("BitsOp(%d, %d, %#x, %#x) looks at b", op, w, a, b)
			}
		}
	}
}

func TestStage6NoBits(t *testing.T) {
	known := map[int]int{}
	for _, op := range bitsOps() {
		known[op] = 1
	}
	words := []uint64{0, 1, 2, 5, ^uint64(0), 1 << 63}
	for op := -70; op <= 140; op++ {
		for _, w := range []int{-1 << 63, -64, -1, 0, 1, 4, 64, 65, 66, 128, 1<<63 - 1} {
			if known[op] != 0 && w >= 1 && w <= 64 {
				continue
			}
			for _, a := range words {
				for _, b := range words {
					if got := impl.BitsOp(op, w, a, b); got != 0 {
						t.Errorf("BitsOp(%d, %d, %#x, %#x) = %#x", op, w, a, b, got)
					}
				}
			}
		}
	}
	for _, op := range []int{-1 << 63, 1<<63 - 1, impl.OpTrue, impl.OpAdd, impl.OpConcat, impl.OpExtract, impl.OpZext, impl.OpBits, impl.OpDistinct, impl.OpIte} {
		if got := impl.BitsOp(op, 4, 5, 3); got != 0 {
			t.Errorf("BitsOp(%d, 4, 5, 3) = %d", op, got)
		}
	}
}

// What the operations are to one another, whatever their words.
func TestStage6LawsOfBits(t *testing.T) {
	r := rand.New(rand.NewSource(66))
	for range 3000 {
		w := 1 + r.Intn(64)
		a, b := r.Uint64()>>(64-w), r.Uint64()>>r.Intn(64)>>(64-w)
		of := func(op int, a, b uint64) uint64 { return impl.BitsOp(op, w, a, b) }
		laws := []bool{
			of(impl.OpBvAdd, of(impl.OpBvMul, of(impl.OpBvDiv, a, b), b), of(impl.OpBvRem, a, b)) == a,
			of(impl.OpBvNeg, a, 0) == of(impl.OpBvAdd, of(impl.OpBvNot, a, 0), 1),
			of(impl.OpBvSub, a, b) == of(impl.OpBvAdd, a, of(impl.OpBvNeg, b, 0)),
			of(impl.OpBvNot, of(impl.OpBvAnd, a, b), 0) == of(impl.OpBvOr, of(impl.OpBvNot, a, 0), of(impl.OpBvNot, b, 0)),
			of(impl.OpBvUlt, a, b)+of(impl.OpBvUle, b, a) == 1,
			of(impl.OpBvSlt, a, b)+of(impl.OpBvSle, b, a) == 1,
			of(impl.OpBvUle, a, b) == of(impl.OpBvUlt, a, b)|of(impl.OpEq, a, b),
			of(impl.OpEq, of(impl.OpBvXor, a, b), 0) == of(impl.OpEq, a, b),
			of(impl.OpBvSar, of(impl.OpBvNot, a, 0), b) == of(impl.OpBvNot, of(impl.OpBvSar, a, b), 0),
		}
		for i, holds := range laws {
			if !holds {
				t.Errorf("law %d: w %d, a %#x, b %#x", i, w, a, b)
			}
		}
	}
}
