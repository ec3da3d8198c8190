package impl

import (
	"slices"
	"strings"
)

const IntDigits = 2500

// Limbs are decimal, so that a text is cut into them and written from them without a change of base.
const limbDigits = 9
const limbBase = 1000000000

// The places of a limb's digits, the highest first.
var limbTens = [limbDigits]uint32{100000000, 10000000, 1000000, 100000, 10000, 1000, 100, 10, 1}

// integer is a whole number: its limbs stand lowest first, none at the top is 0; the number 0 has no limbs and no
// sign. Limbs are never written to once they are in one, so numbers may share them.
type integer struct {
	neg   bool
	limbs []uint32
}

// How the limbs of a pair come together in its sum.
const (
	limbsAdded = iota
	limbsSubtracted
)

// signPair is what the signs of a pair settle alone.
type signPair struct {
	sum   int
	neg   bool // the product and the quotient are below 0, unless they are 0
	order int  // 0: the limbs decide
}

// signPairs has its rows by the sign of the first and its columns by the sign of the second number.
var signPairs = [2][2]signPair{
	{{limbsAdded, false, 0}, {limbsSubtracted, true, 1}},
	{{limbsSubtracted, true, -1}, {limbsAdded, false, 0}},
}

func IsInt(s string) bool {
	digits := strings.TrimPrefix(s, "-")
	if digits == "" || len(digits) > IntDigits {
		return false
	}
	if digits[0] == '0' {
		return s == "0"
	}
	for i := range len(digits) {
		if digits[i] < '0' || digits[i] > '9' {
			return false
		}
	}
	return true
}

func IntAdd(a string, b string) string {
	x, y, ok := readPair(a, b)
	if !ok {
		return ""
	}
	return x.plus(y).text()
}

func IntSub(a string, b string) string {
	x, y, ok := readPair(a, b)
	if !ok {
		return ""
	}
	return x.minus(y).text()
}

func IntMul(a string, b string) string {
	x, y, ok := readPair(a, b)
	if !ok {
		return ""
	}
	return x.times(y).text()
}

func IntDiv(a string, b string) (string, string) {
	x, y, ok := readPair(a, b)
	if !ok || y.isZero() {
		return "", ""
	}
	quotient, rest := x.dividedBy(y)
	return quotient.text(), rest.text()
}

func IntGcd(a string, b string) string {
	x, y, ok := readPair(a, b)
	if !ok {
		return ""
	}
	return x.commonDivisor(y).text()
}

func IntCmp(a string, b string) int {
	x, y, ok := readPair(a, b)
	if !ok {
		return -2
	}
	return x.compare(y)
}

func IntLow(a string, w int) uint64 {
	x, ok := readInteger(a)
	if !ok || w < 1 || w > 64 {
		return 0
	}
	return x.lowBits(w)
}

func IntOf(n uint64) string {
	return makeInteger(false, limbsOf(n)).text()
}

func readPair(a string, b string) (integer, integer, bool) {
	x, okX := readInteger(a)
	y, okY := readInteger(b)
	return x, y, okX && okY
}

func readInteger(s string) (integer, bool) {
	if !IsInt(s) {
		return integer{}, false
	}
	return cutInteger(s), true
}

// cutInteger is for what is an int text but for its length.
func cutInteger(s string) integer {
	digits := strings.TrimPrefix(s, "-")
	limbs := make([]uint32, 0, len(digits)/limbDigits+1)
	for end := len(digits); end > 0; end -= limbDigits {
		limbs = append(limbs, readLimb(digits[max(0, end-limbDigits):end]))
	}
	return makeInteger(len(digits) < len(s), limbs)
}

func readLimb(digits string) uint32 {
	var limb uint32
	for i := range len(digits) {
		limb = limb*10 + uint32(digits[i]-'0')
	}
	return limb
}

func makeInteger(neg bool, limbs []uint32) integer {
	limbs = trimLimbs(limbs)
	return integer{neg && len(limbs) > 0, limbs}
}

// text is "" where the number has more than IntDigits digits: that is no int text.
func (a integer) text() string {
	text := a.longText()
	if len(strings.TrimPrefix(text, "-")) > IntDigits {
		return ""
	}
	return text
}

// longText is the text of the number, however many digits it has.
func (a integer) longText() string {
	if a.isZero() {
		return "0"
	}
	padded := make([]byte, 0, len(a.limbs)*limbDigits)
	for _, limb := range slices.Backward(a.limbs) {
		padded = appendLimb(padded, limb)
	}
	digits := strings.TrimLeft(string(padded), "0")
	if a.neg {
		return "-" + digits
	}
	return digits
}

func appendLimb(digits []byte, limb uint32) []byte {
	for i := range limbTens {
		digits = append(digits, '0'+byte(limb/limbTens[i]))
		limb %= limbTens[i]
	}
	return digits
}

func (a integer) isZero() bool {
	return len(a.limbs) == 0
}

func signNumber(a integer) int {
	if a.neg {
		return 1
	}
	return 0
}

func signsOf(a integer, b integer) signPair {
	return signPairs[signNumber(a)][signNumber(b)]
}

func (a integer) negated() integer {
	return makeInteger(!a.neg, a.limbs)
}

func (a integer) plus(b integer) integer {
	if signsOf(a, b).sum == limbsAdded {
		return makeInteger(a.neg, addLimbs(a.limbs, b.limbs))
	}
	if compareLimbs(a.limbs, b.limbs) < 0 {
		a, b = b, a
	}
	return makeInteger(a.neg, subtractLimbs(a.limbs, b.limbs))
}

func (a integer) minus(b integer) integer {
	return a.plus(b.negated())
}

func (a integer) times(b integer) integer {
	return makeInteger(signsOf(a, b).neg, multiplyLimbs(a.limbs, b.limbs))
}

// dividedBy gives the quotient and the rest, which is never below 0; b is not 0.
func (a integer) dividedBy(b integer) (integer, integer) {
	quotient, rest := divideLimbs(a.limbs, b.limbs)
	if a.neg && len(rest) > 0 {
		quotient = addLimbs(quotient, []uint32{1})
		rest = subtractLimbs(b.limbs, rest)
	}
	return makeInteger(signsOf(a, b).neg, quotient), makeInteger(false, rest)
}

func (a integer) commonDivisor(b integer) integer {
	return makeInteger(false, commonLimbs(a.limbs, b.limbs))
}

func (a integer) compare(b integer) int {
	if order := signsOf(a, b).order; order != 0 {
		return order
	}
	if a.neg {
		return compareLimbs(b.limbs, a.limbs)
	}
	return compareLimbs(a.limbs, b.limbs)
}

// lowBits counts on unsigned words that wrap round: that is the number modulo 2^64, of a negative one too.
func (a integer) lowBits(w int) uint64 {
	low := wordOf(a.limbs)
	if a.neg {
		low = -low
	}
	return low & (^uint64(0) >> (64 - w))
}

// wordOf is the number modulo 2^64.
func wordOf(limbs []uint32) uint64 {
	var word uint64
	for _, limb := range slices.Backward(limbs) {
		word = word*limbBase + uint64(limb)
	}
	return word
}

func limbsOf(word uint64) []uint32 {
	var limbs []uint32
	for ; word > 0; word /= limbBase {
		limbs = append(limbs, uint32(word%limbBase))
	}
	return limbs
}

func trimLimbs(limbs []uint32) []uint32 {
	for len(limbs) > 0 && limbs[len(limbs)-1] == 0 {
		limbs = limbs[:len(limbs)-1]
	}
	return limbs
}

func compareLimbs(a []uint32, b []uint32) int {
	if len(a) != len(b) {
		if len(a) < len(b) {
			return -1
		}
		return 1
	}
	for i := len(a) - 1; i >= 0; i-- {
		if a[i] < b[i] {
			return -1
		}
		if a[i] > b[i] {
			return 1
		}
	}
	return 0
}

func addLimbs(a []uint32, b []uint32) []uint32 {
	if len(a) < len(b) {
		a, b = b, a
	}
	sum := make([]uint32, len(a)+1)
	copy(sum, a)
	sum[len(a)] = addInto(sum[:len(a)], b)
	return trimLimbs(sum)
}

// addInto adds b, which is not longer, to sum, and gives what is carried out of it.
func addInto(sum []uint32, b []uint32) uint32 {
	var carry uint32
	for i := range sum {
		if i >= len(b) && carry == 0 {
			break
		}
		limb := sum[i] + carry
		if i < len(b) {
			limb += b[i]
		}
		carry = 0
		if limb >= limbBase {
			limb -= limbBase
			carry = 1
		}
		sum[i] = limb
	}
	return carry
}

// subtractLimbs takes b, which is not greater, from a.
func subtractLimbs(a []uint32, b []uint32) []uint32 {
	difference := slices.Clone(a)
	subtractScaled(difference, b, 1)
	return trimLimbs(difference)
}

// subtractScaled takes factor times b from a, and gives what is still to be taken from the limb above a.
func subtractScaled(a []uint32, b []uint32, factor uint64) uint64 {
	var owed uint64
	for i := range a {
		if i >= len(b) && owed == 0 {
			break
		}
		if i < len(b) {
			owed += factor * uint64(b[i])
		}
		low := uint32(owed % limbBase)
		owed /= limbBase
		if a[i] < low {
			a[i] += limbBase
			owed++
		}
		a[i] -= low
	}
	return owed
}

func multiplyLimbs(a []uint32, b []uint32) []uint32 {
	product := make([]uint32, len(a)+len(b))
	for i, limb := range a {
		product[i+len(b)] = addScaled(product[i:i+len(b)], b, uint64(limb))
	}
	return trimLimbs(product)
}

// addScaled adds factor times b to sum, which is as long, and gives what is carried out of it.
func addScaled(sum []uint32, b []uint32, factor uint64) uint32 {
	var carry uint64
	for i, limb := range b {
		carry += factor*uint64(limb) + uint64(sum[i])
		sum[i] = uint32(carry % limbBase)
		carry /= limbBase
	}
	return uint32(carry)
}

// divideLimbs gives the quotient and the rest; b is not 0.
func divideLimbs(a []uint32, b []uint32) ([]uint32, []uint32) {
	if compareLimbs(a, b) < 0 {
		return nil, a
	}
	if len(b) == 1 {
		quotient, rest := divideByLimb(a, b[0])
		return quotient, limbsOf(uint64(rest))
	}
	return divideLong(a, b)
}

func divideByLimb(a []uint32, b uint32) ([]uint32, uint32) {
	quotient := make([]uint32, len(a))
	var rest uint64
	for i := len(a) - 1; i >= 0; i-- {
		rest = rest*limbBase + uint64(a[i])
		quotient[i] = uint32(rest / uint64(b))
		rest %= uint64(b)
	}
	return trimLimbs(quotient), uint32(rest)
}

// divideLong divides limb by limb, a not being below b, and b having at least two limbs. Both are scaled first so
// that the top limb of b is at least half of limbBase: then a guess from the top limbs is at most one too great.
func divideLong(a []uint32, b []uint32) ([]uint32, []uint32) {
	scale := limbBase / (b[len(b)-1] + 1)
	rest := make([]uint32, len(a)+1)
	rest[len(a)] = addScaled(rest[:len(a)], a, uint64(scale))
	divisor := make([]uint32, len(b))
	addScaled(divisor, b, uint64(scale))
	quotient := make([]uint32, len(a)-len(b)+1)
	for i := len(quotient) - 1; i >= 0; i-- {
		quotient[i] = divideStep(rest[i:i+len(b)+1], divisor)
	}
	unscaled, _ := divideByLimb(rest[:len(b)], scale)
	return trimLimbs(quotient), unscaled
}

// divideStep gives one limb of a quotient, and leaves in rest, which has a limb more than divisor, what is left. (That
// is below the divisor, so the limb more is not looked at again.)
func divideStep(rest []uint32, divisor []uint32) uint32 {
	n := len(divisor)
	guess := guessLimb(rest, divisor)
	owed := subtractScaled(rest[:n], divisor, guess)
	if owed > uint64(rest[n]) {
		addInto(rest[:n], divisor)
		guess--
	}
	return uint32(guess)
}

// guessLimb is the quotient of the top three limbs and the divisor's top two.
func guessLimb(rest []uint32, divisor []uint32) uint64 {
	n := len(divisor)
	top := uint64(rest[n])*limbBase + uint64(rest[n-1])
	first, second := uint64(divisor[n-1]), uint64(divisor[n-2])
	guess, left := top/first, top%first
	for guess*second > left*limbBase+uint64(rest[n-2]) {
		guess--
		left += first
	}
	return guess
}

// commonLimbs is Euclid's way. Most of its quotients are settled by the leading digits alone: so many steps are done on
// words, and then at once on the limbs.
func commonLimbs(a []uint32, b []uint32) []uint32 {
	if compareLimbs(a, b) < 0 {
		a, b = b, a
	}
	for len(a) > 2 {
		if len(b) == 0 {
			return a
		}
		steps := leadingSteps(leadingWords(a, b))
		if steps.first == noSteps.first {
			_, rest := divideLimbs(a, b)
			a, b = b, rest
			continue
		}
		a, b = combineLimbs(a, b, steps.first), combineLimbs(a, b, steps.second)
	}
	return limbsOf(commonWord(wordOf(a), wordOf(b)))
}

func commonWord(x uint64, y uint64) uint64 {
	for y != 0 {
		x, y = y, x%y
	}
	return x
}

// euclidSteps makes of a pair x, y the sums first[0]*x + first[1]*y and second[0]*x + second[1]*y.
type euclidSteps struct {
	first  [2]int64
	second [2]int64
}

var noSteps = euclidSteps{[2]int64{1, 0}, [2]int64{0, 1}}

// leadingWords gives the leading 18 digits of a, which is not below b and has more than two limbs, and what b has in
// the same places.
func leadingWords(a []uint32, b []uint32) (int64, int64) {
	below := len(a) - 2
	ten := int64(1)
	for int64(a[len(a)-1])*ten*10 < limbBase {
		ten *= 10
	}
	return leadingWord(a, below, ten), leadingWord(b, below, ten)
}

// leadingWord gives the limbs from number below on, and so many digits of the next one as ten has zeros.
func leadingWord(limbs []uint32, below int, ten int64) int64 {
	word := limbAt(limbs, below+1)*limbBase + limbAt(limbs, below)
	return word*ten + limbAt(limbs, below-1)/(limbBase/ten)
}

func limbAt(limbs []uint32, i int) int64 {
	if i < len(limbs) {
		return int64(limbs[i])
	}
	return 0
}

// leadingSteps goes on while the numbers that have x and y ahead all give one quotient: the two at the ends do. Then
// the new factor is below y, and the product of both not above the first x, which has 18 digits: factors stay below
// limbBase, and products of a factor and a limb fit into a word.
func leadingSteps(x int64, y int64) euclidSteps {
	steps := noSteps
	for y+steps.second[0] > 0 && y+steps.second[1] > 0 {
		quotient := (x + steps.first[0]) / (y + steps.second[0])
		if quotient != (x+steps.first[1])/(y+steps.second[1]) {
			break
		}
		var next [2]int64
		for i := range next {
			next[i] = steps.first[i] - quotient*steps.second[i]
		}
		steps.first, steps.second = steps.second, next
		x, y = y, x-quotient*y
	}
	return steps
}

// combineLimbs is factors[0]*a + factors[1]*b, which is neither below 0 nor longer than a.
func combineLimbs(a []uint32, b []uint32, factors [2]int64) []uint32 {
	sum := make([]uint32, len(a))
	var carry int64
	for i := range sum {
		carry += factors[0]*int64(a[i]) + factors[1]*limbAt(b, i)
		low := carry % limbBase
		carry /= limbBase
		if low < 0 {
			low += limbBase
			carry--
		}
		sum[i] = uint32(low)
	}
	return trimLimbs(sum)
}
