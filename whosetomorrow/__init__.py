"""Talks whose words look to who says them, decided for all situations."""
