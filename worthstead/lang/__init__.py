"""The language: programs as trees and texts, and what they do."""
