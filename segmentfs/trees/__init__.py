"""Part 7: trees and files."""
