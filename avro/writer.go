package avro

import (
	"strings"

	"avro/container"
)

// Writer writes records.
type Writer struct {
	file    *File
	layout  layout
	most    int    // bytes of records: as soon as so many are kept, they are written
	kept    []byte // of records that are not written yet
	records int    // how many these are: there are records of no bytes
	over    error  // ErrClosed or ErrDown, if all is that from now on
}

// Create begins a file (P17).
func Create(f *File, schema string, codec, block int, marker string) (*Writer, error) {
	s, err := Parse(schema)
	if err != nil {
		return nil, err
	}
	if codec < 0 || codec >= len(codecs) {
		return nil, ErrCodec
	}
	if !isBlockSize(block) || len(marker) != container.MarkerSize {
		return nil, ErrRange
	}
	header := container.Header{Schema: schema, Codec: codecs[codec], Marker: marker}
	if err := f.Write(header.Encode()); err != nil {
		return nil, err
	}
	return &Writer{file: f, layout: layout{s, packing(codec), strings.Clone(marker)}, most: block}, nil
}

func isBlockSize(n int) bool { return 1 <= n && n <= container.MostBytes }

// Resume goes on with a file (P18).
func Resume(f *File, block int) (*Writer, error) {
	var found layout
	err := f.cut(func(all string) (int, error) {
		l, size, err := readLayout(all)
		if err != nil {
			return 0, err
		}
		if !isBlockSize(block) {
			return 0, ErrRange
		}
		found = l
		return l.wholeEnd(all, size), nil
	})
	if err != nil {
		return nil, err
	}
	return &Writer{file: f, layout: found, most: block}, nil
}

// Append writes a record, some time (P17).
func (w *Writer) Append(d Datum) error {
	if err := w.ended(); err != nil {
		return err
	}
	text, err := w.layout.schema.Encode(d)
	if err != nil {
		return err
	}
	if len(text) > container.MostBytes {
		return ErrMany
	}
	if len(w.kept)+len(text) > container.MostBytes {
		if err := w.write(); err != nil {
			return err
		}
	}
	w.kept = append(w.kept, text...)
	w.records++
	if len(w.kept) < w.most && w.records < container.MostRecords {
		return nil
	}
	return w.write()
}

// ended tells whether all is ErrClosed, or ErrDown, by now.
func (w *Writer) ended() error {
	if w == nil {
		return ErrClosed
	}
	return w.over
}

// write writes what is kept, if something is, as a block.
func (w *Writer) write() error {
	if w.records == 0 {
		return nil
	}
	block := w.layout.block(w.records, string(w.kept))
	w.kept, w.records = nil, 0
	return w.went(w.file.Write(block))
}

// went keeps how an operation of the file went: behind an ErrDown a writer does nothing more, also if the file is up again, as it can't tell what was lost.
func (w *Writer) went(err error) error {
	w.over = err
	return err
}

// Flush makes all safe (P17).
func (w *Writer) Flush() error {
	if err := w.ended(); err != nil {
		return err
	}
	if err := w.write(); err != nil {
		return err
	}
	return w.went(w.file.Sync())
}

// Close makes all safe, and ends (P17).
func (w *Writer) Close() error {
	if err := w.Flush(); err != nil {
		return err
	}
	w.over = ErrClosed
	return nil
}
