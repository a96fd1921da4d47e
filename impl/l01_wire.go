package impl

const MaxTick = 4294967295

// A gap from here on is read as a tick that lies ahead, not behind.
const halfRound = 1 << 31

const hexDigits = "0123456789ABCDEF"

// What four steps of the sum make of its lower four bits: two looks a byte
// stand for its eight steps, and the table stays short.
var crcOfFour = [16]int{
	0x0000, 0xCC01, 0xD801, 0x1400, 0xF001, 0x3C00, 0x2800, 0xE401,
	0xA001, 0x6C00, 0x7800, 0xB401, 0x5000, 0x9C01, 0x8801, 0x4400,
}

func Crc(b []byte) int {
	sum := 65535
	for _, x := range b {
		sum ^= int(x)
		sum = sum>>4 ^ crcOfFour[sum&15]
		sum = sum>>4 ^ crcOfFour[sum&15]
	}
	return sum
}

func Lrc(b []byte) int {
	var sum byte
	for _, x := range b {
		sum += x
	}
	return int(-sum)
}

func Hex(b []byte) string {
	text := make([]byte, 0, 2*len(b))
	for _, x := range b {
		text = append(text, hexDigits[x>>4], hexDigits[x&15])
	}
	return string(text)
}

func UnHex(s string) ([]byte, bool) {
	if len(s)%2 != 0 {
		return nil, false
	}
	b := make([]byte, len(s)/2)
	for i, r := range s {
		digit, ok := digitOf(r)
		if !ok {
			return nil, false
		}
		b[i/2] = b[i/2]<<4 | digit
	}
	return b, true
}

func digitOf(r rune) (byte, bool) {
	switch {
	case '0' <= r && r <= '9':
		return byte(r - '0'), true
	case 'A' <= r && r <= 'F':
		return byte(r-'A') + 10, true
	}
	return 0, false
}

func PutWord(b []byte, n int) []byte {
	// A list of its own: append alone could write into the room behind b.
	out := make([]byte, 0, len(b)+2)
	out = append(out, b...)
	return append(out, byte(n>>8), byte(n))
}

func WordAt(b []byte, at int) (int, bool) {
	// Not at+1 against the length: that would pass the end of int.
	if at < 0 || at > len(b)-2 {
		return 0, false
	}
	return int(b[at])<<8 | int(b[at+1]), true
}

func isTick(n int) bool { return 0 <= n && n <= MaxTick }

func TickOn(t int, n int) int {
	if !isTick(t) || !isTick(n) {
		return 0
	}
	return (t + n) & MaxTick
}

func TickGap(from int, to int) int {
	if !isTick(from) || !isTick(to) {
		return 0
	}
	return (to - from) & MaxTick
}

func TickDue(now int, due int) bool {
	// TickGap's 0 for what is no tick would read as due.
	return isTick(now) && isTick(due) && TickGap(due, now) < halfRound
}
