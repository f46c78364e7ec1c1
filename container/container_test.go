package container

import (
	"strings"
	"testing"
)

const marker = "0123456789abcdef"

// P16, P17: a header's bytes, and the header of these bytes, whatever is behind them.
func TestHeader(t *testing.T) {
	h := Header{Schema: `"int"`, Codec: "deflate", Marker: marker}
	text := "Obj\x01\x04\x14avro.codec\x0edeflate\x16avro.schema\x0a\"int\"\x00" + marker
	if got := h.Encode(); got != text {
		t.Errorf("got %q, want %q", got, text)
	}
	for _, more := range []string{"", "\x00", marker} {
		if got, n, err := DecodeHeader(text + more); got != h || n != len(text) || err != nil {
			t.Errorf("%q behind it: %v, %d, %v", more, got, n, err)
		}
	}
	for _, text := range []string{text[:len(text)-1], "obj" + text[3:], "Obj\x01\x00" + marker} {
		if got, n, err := DecodeHeader(text); got != (Header{}) || n != 0 || err == nil {
			t.Errorf("%q: %v, %d, %v", text, got, n, err)
		}
	}
	if got, _, err := DecodeHeader("Obj\x01\x02\x16avro.schema\x00\x00" + marker); got != (Header{"", "null", marker}) || err != nil {
		t.Errorf("an empty schema, and no codec: %v, %v", got, err)
	}
}

// P16: a block's bytes, and the block of these bytes, whatever is behind them.
func TestBlock(t *testing.T) {
	for _, b := range []Block{{1, ""}, {1, "\x0a"}, {MostRecords, strings.Repeat("x", 70000)}} {
		text := b.Encode(marker)
		for _, more := range []string{"", "\x00", marker} {
			if got, n, err := DecodeBlock(text+more, marker); got != b || n != len(text) || err != nil {
				t.Errorf("%d records, %q behind them: %d, %d, %v", b.Count, more, got.Count, n, err)
			}
		}
		if got, n, err := DecodeBlock(text, strings.ToUpper(marker)); got != (Block{}) || n != 0 || err == nil {
			t.Errorf("%d records, another marker: %v, %d, %v", b.Count, got, n, err)
		}
	}
	if got := (Block{1, "\x0a"}).Encode(marker); got != "\x02\x02\x0a"+marker {
		t.Errorf("got %q", got)
	}
	for _, count := range []int{0, -1, MostRecords + 1} {
		if got, n, err := DecodeBlock(Block{count, ""}.Encode(marker), marker); got != (Block{}) || n != 0 || err == nil {
			t.Errorf("%d records: %v, %d, %v", count, got, n, err)
		}
	}
	for _, text := range []string{"", "\x02", "\x02\x80", "\x02\x01" + marker, "\x02\x02" + marker, "\x02\x24" + marker, "\x02\xfe\xff\xff\xff\xff\xff\xff\xff\xff\x01" + marker, "\x02\x00" + marker[:15]} {
		if got, n, err := DecodeBlock(text, marker); got != (Block{}) || n != 0 || err == nil {
			t.Errorf("%q: %v, %d, %v", text, got, n, err)
		}
	}
}
