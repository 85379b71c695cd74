// Package flows: programs with levels of secrecy, and proofs: see DOC.md.
package flows

import (
	"flows/api"
	"flows/check"
	"flows/infer"
	"flows/machine"
	"flows/program"
	"flows/proof"
)

// Run runs a program (P7).
func Run(s string, cells []uint32, fuel int) (api.Ended, error) {
	p, err := program.Read(s)
	if err != nil {
		return api.Ended{}, err
	}
	if len(cells) != len(p.Cells) {
		return api.Ended{}, api.ErrCells
	}
	return machine.Run(p, cells, fuel), nil
}

// Decode tells the proof that bytes are (P9).
func Decode(b []byte) (api.Proof, error) { return proof.Decode(b) }

// Encode tells a proof's bytes (P9).
func Encode(p api.Proof) ([]byte, error) { return proof.Encode(p) }

// Text tells a proof's bytes as a text (P10).
func Text(b []byte) (string, error) {
	p, err := proof.Decode(b)
	if err != nil {
		return "", err
	}
	return proof.Text(p), nil
}

// Bytes tells the bytes of a proof's text (P10).
func Bytes(s string) ([]byte, error) {
	p, err := proof.Read(s)
	if err != nil {
		return nil, err
	}
	return proof.Encode(p)
}

// Check tells whether bytes prove a program (P12).
func Check(s string, b []byte) error {
	p, err := program.Read(s)
	if err != nil {
		return err
	}
	given, err := proof.Decode(b)
	if err != nil {
		return err
	}
	return check.Proof(p, given)
}

// Infer finds a proof of a program (P13).
func Infer(s string) ([]byte, error) {
	p, err := program.Read(s)
	if err != nil {
		return nil, err
	}
	found, err := infer.Proof(p)
	if err != nil {
		return nil, err
	}
	return proof.Encode(found)
}
