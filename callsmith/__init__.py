"""Callsmith: a small language told by its trees and by a machine."""
