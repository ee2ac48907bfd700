"""Rules between columns of finite tables."""
