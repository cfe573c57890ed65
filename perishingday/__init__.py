"""One perishing day: what is bought for a day is sold or left."""
