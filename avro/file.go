package avro

import "sync"

// File is a stand-in for a file (P15).
type File struct {
	lock    sync.Mutex // writers in several goroutines may have one file
	safe    []byte
	written []byte // what is only written
	fuse    int    // which operation from now on goes down with the file; below 1: none does
	isDown  bool
}

// NewFile makes an empty one (P15).
func NewFile() *File { return &File{} }

// operate does what an operation does, if the file is up.
func (f *File) operate(do func()) error {
	if f == nil {
		return ErrDown
	}
	f.lock.Lock()
	defer f.lock.Unlock()
	return f.ifUp(do)
}

// ifUp is operate where the lock is held already.
func (f *File) ifUp(do func()) error {
	if f.fuse > 0 {
		f.fuse--
		f.isDown = f.isDown || f.fuse == 0
	}
	if f.isDown {
		return ErrDown
	}
	do()
	return nil
}

// Write adds to what is only written (P15).
func (f *File) Write(text string) error {
	return f.operate(func() { f.written = append(f.written, text...) })
}

// Sync makes what is written safe (P15).
func (f *File) Sync() error {
	return f.operate(func() { f.keep(len(f.written)) })
}

// Replace puts a text in the place of all (P15).
func (f *File) Replace(text string) error {
	return f.operate(func() { f.put(text) })
}

func (f *File) put(text string) { f.safe, f.written = []byte(text), nil }

// cut replaces all that the file has by its first bytes, as many as whole says; where these are all, and safe, it is no operation. The lock is held throughout: what another writes between the look and the Replace would be lost.
func (f *File) cut(whole func(all string) (int, error)) error {
	if f == nil {
		return ErrDown
	}
	f.lock.Lock()
	defer f.lock.Unlock()
	all := string(f.safe) + string(f.written)
	size, err := whole(all)
	if err != nil {
		return err
	}
	if size == len(f.safe) && len(f.written) == 0 {
		return nil
	}
	return f.ifUp(func() { f.put(all[:size]) })
}

// Fuse lets the file go down later (P15).
func (f *File) Fuse(n int) {
	if f == nil {
		return
	}
	f.lock.Lock()
	defer f.lock.Unlock()
	f.fuse = n
}

// Crash loses what is not safe (P15).
func (f *File) Crash(keep int) {
	if f == nil {
		return
	}
	f.lock.Lock()
	defer f.lock.Unlock()
	f.keep(min(max(keep, 0), len(f.written)))
	f.fuse, f.isDown = 0, false
}

// keep makes the first n bytes of what is only written safe, and loses the rest.
func (f *File) keep(n int) {
	f.safe = append(f.safe, f.written[:n]...)
	f.written = nil
}

// Bytes tells what is safe, and what is only written (P15).
func (f *File) Bytes() (string, string) {
	if f == nil {
		return "", ""
	}
	f.lock.Lock()
	defer f.lock.Unlock()
	return string(f.safe), string(f.written)
}
