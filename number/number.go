// Package number reads numbers in strings: decimal digits, without a sign and without unnecessary leading zeros.
package number

import "strconv"

// mostDigits is how many digits a number can have that surely is an int.
const mostDigits = 18

// Parse returns the number s, which has at most the given number of digits.
func Parse(s string, digits int) (int, bool) {
	if s == "" || len(s) > min(digits, mostDigits) || s[0] == '0' && s != "0" {
		return 0, false
	}
	for i := range len(s) {
		if s[i] < '0' || s[i] > '9' {
			return 0, false
		}
	}
	n, err := strconv.Atoi(s)
	return n, err == nil
}
