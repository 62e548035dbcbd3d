"""Boundorvoid: pacts signed by notes, and a notary who answers at once."""
