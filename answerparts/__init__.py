"""Answerparts: asks of many items that are answered in part."""
